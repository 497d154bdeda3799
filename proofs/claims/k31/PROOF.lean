import PyProof.Rows.All
import Wide.All
import OpenK.AllK
import Wide.FinOn
import Lean
import PyProof.EqAt
import PyProof.EqKinds
import PyProof.TupleCall
import PyProof.NeKinds
import KE.RegKTryMore
import KE.KIntText
import PyProof.MeetsStr2
import PyProof.StrLawsChain
import PyProof.Rows.StrSplitAre
import KE.KIsAll
import PyProof.ExcArgsOwn
import PySem.Challenge.RW_secondread_k31_desk_bringing
set_option Elab.async false
set_option linter.all false
set_option maxRecDepth 100000
set_option maxHeartbeats 4000000
local macro_rules | `(tactic| omega)=>`(tactic| lia)
namespace L2
open PySem PySem.Spec PyProof.Rows
abbrev Key:=Sum Int Str
def keyIs:Key→Value→Bool
 | .inl k,v=>Value.isInt k v
 | .inr x,v=>Value.isStrOf x v
def keyH (w:World):Key→Int
 | .inl k=>hashInt k
 | .inr x=>hashStr w x
theorem keyIs_shape:∀ {k:Key} {v:Value},keyIs k v=true→(∃ i t,k=Sum.inl i∧v=Value.int i t)∨(∃ x t,k=Sum.inr x∧v=Value.str x t)
 | .inl i,v,h=>by
   obtain ⟨t,e⟩:=Value.isInt_shape (k:=i) (v:=v) h;exact .inl ⟨i,t,rfl,e⟩
 | .inr x,v,h=>by
   obtain ⟨t,e⟩:=Value.isStrOf_shape (x:=x) (v:=v) h;exact .inr ⟨x,t,rfl,e⟩
theorem zg4 (i:Int) (t:Tok):keyIs (.inl i) (.int i t)=true:=by simp [keyIs,Value.isInt]
theorem zg5 (x:Str) (t:Tok):keyIs (.inr x) (.str x t)=true:=by simp [keyIs,Value.isStrOf]
theorem zki (a b:Int):decide ((Sum.inl a:Key)=Sum.inl b)=(a == b):=by
 by_cases e:a=b
 ·subst e;simp
 ·have h:¬(Sum.inl a:Key)=Sum.inl b:=fun q=>e (Sum.inl.inj q);rw [decide_eq_false h];exact (beq_eq_false_iff_ne.mpr e).symm
theorem zkj (a b:Str):decide ((Sum.inr a:Key)=Sum.inr b)=decide (a=b):=by
 by_cases e:a=b
 ·subst e;simp
 ·have h:¬(Sum.inr a:Key)=Sum.inr b:=fun q=>e (Sum.inr.inj q);rw [decide_eq_false h,decide_eq_false e]
theorem zkk (a:Int) (b:Str):decide ((Sum.inl a:Key)=Sum.inr b)=false:=decide_eq_false (fun q=>nomatch q)
theorem zkl (a:Str) (b:Int):decide ((Sum.inr a:Key)=Sum.inl b)=false:=decide_eq_false (fun q=>nomatch q)
def za9 (prog:Program) (w:World):PySem.KeyKind prog w Key where
 is:=keyIs
 hash:=keyH w
 inj:=fun v a b ha hb=>by
  rcases keyIs_shape ha with ⟨i,t,rfl,rfl⟩ | ⟨x,t,rfl,rfl⟩
  ·rcases keyIs_shape hb with ⟨j,u,rfl,e⟩ | ⟨y,u,rfl,e⟩
   ·injection e with e1 _;rw [e1]
   ·exact nomatch e
  ·rcases keyIs_shape hb with ⟨j,u,rfl,e⟩ | ⟨y,u,rfl,e⟩
   ·exact nomatch e
   ·injection e with e1 _;rw [e1]
 byValue:=fun k v h=>by
  rcases keyIs_shape h with ⟨i,t,rfl,rfl⟩ | ⟨x,t,rfl,rfl⟩ <;> rfl
 pyHash:=fun hv h=>by
  rcases keyIs_shape hv with ⟨i,t,rfl,rfl⟩ | ⟨x,t,rfl,rfl⟩
  ·exact wpAny_pyHash_int h
  ·exact wpAny_pyHash_str h
 eqBool:=fun hu hv h=>by
  rcases keyIs_shape hu with ⟨i,t,rfl,rfl⟩ | ⟨x,t,rfl,rfl⟩
  ·rcases keyIs_shape hv with ⟨j,u,rfl,rfl⟩ | ⟨y,u,rfl,rfl⟩
   ·rw [zki] at h;exact wpAny_eqBool_int h
   ·rw [zkk] at h;exact SeqAt.EqAt.int_str i t y u _ _ _ _ h
  ·rcases keyIs_shape hv with ⟨j,u,rfl,rfl⟩ | ⟨y,u,rfl,rfl⟩
   ·rw [zkl] at h;exact SeqAt.EqAt.str_int x t j u _ _ _ _ h
   ·rw [zkj] at h;exact wpAny_eqBool_str h
 «strs»:=fun k x t v h=>by
  rcases keyIs_shape h with ⟨i,u,rfl,e⟩ | ⟨y,u,rfl,e⟩
  ·exact nomatch e
  ·injection e with e1 _;subst e1
   cases v <;> rfl
theorem zfH (prog:Program) (w:World) (i:Int) (t:Tok):(za9 prog w).is (.inl i) (.int i t)=true:=zg4 i t
theorem zdw (prog:Program) (w:World) (x:Str) (t:Tok):(za9 prog w).is (.inr x) (.str x t)=true:=zg5 x t
end L2
namespace L2
open PySem PySem.Spec PyProof.Rows
inductive V where
 | non | bl (b:Bool) | int (i:Int) | str (x:Str) | byt (b:Array UInt8) | flt (b:UInt64) | ref (a:Addr) | ty (n:String)
 deriving DecidableEq
def RelV:V→Value→Prop
 | .non,u=>u=Value.none
 | .bl b,u=>u=Value.bool b
 | .int i,u=>∃ t,u=Value.int i t
 | .str x,u=>∃ t,u=Value.str x t
 | .byt b,u=>∃ t,u=Value.bytes b t
 | .flt b,u=>∃ t,u=Value.float b t
 | .ref a,u=>u=Value.ref a
 | .ty n,u=>u=Value.type n
abbrev Vals:List V→List Value→Prop:=Paired RelV
theorem Vals.length {xs:List V} {us:List Value} (r:Vals xs us):xs.length=us.length:=Paired.length r
theorem Vals.get:∀ {xs:List V} {us:List Value} {i:Nat} {x:V},Vals xs us→xs[i]? = some x→∃ u,us[i]? = some u∧RelV x u
 | _,_,_,_,.nil,e=>by simp at e
 | _,_,0,_,.cons r _,e=>by simp at e;subst e;exact ⟨_,rfl,r⟩
 | _,_,i+1,x,.cons _ t,e=>by
   obtain ⟨u,h1,h2⟩:=Vals.get (i:=i) (x:=x) t (by simpa using e);exact ⟨u,by simpa using h1,h2⟩
theorem Vals.append:∀ {xs ys:List V} {us ws:List Value},Vals xs us→Vals ys ws→Vals (xs++ys) (us++ws)
 | _,_,_,_,.nil,s=>s
 | _,_,_,_,.cons r t,s=>.cons r (Vals.append t s)
theorem Vals.take:∀ {xs:List V} {us:List Value} (n:Nat),Vals xs us→Vals (xs.take n) (us.take n)
 | _,_,0,_=>.nil
 | _,_,_+1,.nil=>.nil
 | _,_,n+1,.cons r t=>.cons r (Vals.take n t)
theorem Vals.drop:∀ {xs:List V} {us:List Value} (n:Nat),Vals xs us→Vals (xs.drop n) (us.drop n)
 | _,_,0,r=>r
 | _,_,_+1,.nil=>.nil
 | _,_,n+1,.cons _ t=>Vals.drop n t
def RelO:Option V→Option Value→Prop
 | some v,some u=>RelV v u
 | none,none=>True
 | _,_=>False
def KV {κ:Type}:List (κ×V)→List (κ×Value)→Prop:=Paired fun (p:κ×V) (q:κ×Value)=>p.1=q.1∧RelV p.2 q.2
def kV:Key→V
 | .inl i=>.int i
 | .inr x=>.str x
inductive HO where
 | lst (xs:List V)
 | tup (xs:List V)
 | dK (kvs:List (Key×V)) | dT (kvs:List (List Key×V))
 | set (S:Int→Bool) (n:Nat)
 | ins (C dx:Addr) (fs:List (Str×V))
 | own (x:Addr)
 | xd (fs:List (Str×V))
 | met (f x:Addr)
 | rng (lo hi:Int)
 | frz (o:Obj) (u:HO)
 | tbl (ps:Array Value)
 | ext (φ:Heap→Prop)
abbrev Hp:=Addr→Option HO
def upd (H:Hp) (a:Addr) (o:HO):Hp:=fun b=>if b=a then some o else H b
theorem zaq {H:Hp} {a:Addr} {o:HO}:upd H a o a=some o:=by unfold upd;rw [if_pos rfl]
theorem zaJ {H:Hp} {a b:Addr} {o:HO} (h:b≠a):upd H a o b=H b:=by unfold upd;rw [if_neg h]
theorem zjr {H:Hp} {a:Addr} {o u:HO}:upd (upd H a o) a u=upd H a u:=by
 funext b;unfold upd;split <;> rfl
theorem zlx {H:Hp} {a b:Addr} {o u:HO} (h:H a=some o) (h':H b=some u) (d:o≠u):a≠b:=by
 intro e;subst e;rw [h] at h';exact d (Option.some.inj h')
theorem zaf {H:Hp} {a b:Addr} {o:HO} (h:H a=some o) (h':H b=none):a≠b:=by
 intro e;subst e;rw [h] at h';cases h'
section
variable (P:Program) (w:World)
def zbl (H:Hp) (h:Heap) (a:Addr):HO→Prop
 | .lst xs=>xs.length≤sizeLine∧∃ (its:List Value) (n:Nat),Vals xs its∧h.get? a=some { cls:=.type "list",data:=.seq its.toArray n }
 | .tup xs=>xs.length≤sizeLine∧∃ its:List Value,Vals xs its∧IsTup h a its.toArray
 | .dK kvs=>kvs.length≤sizeLine∧(a == sysModules)=false∧∃ vs,KV kvs vs∧h.DictOf (za9 P w) a vs
 | .dT kvs=>kvs.length≤sizeLine∧(a == sysModules)=false∧∃ xs:List (List Key×Addr×Value),
    Paired (fun (p:List Key×V) (q:List Key×Addr×Value)=>p.1=q.1∧H q.2.1=some (.tup (p.1.map kV))∧RelV p.2 q.2.2) kvs xs ∧
    ∃ o es ep,h.get? a=some o∧o.ExactDict∧o.data=.dict es ep∧es.toList=xs.map (entryOfKey (tupleKind (za9 P w)))∧(xs.map (·.1)).Nodup
 | .set S n=>h.SetOf (intKind P w) a S n
 | .ins C dx fs=>H dx=some (.own a)∧fs.length≤1000∧dx≠a∧h.get? a=some (PySem.W.instObj C dx) ∧
    ∃ mA,h.Ns1 dx mA∧(∀ f,RelO (fs.lookup f) (mA f))∧PySem.Within mA (fs.map (·.1))
 | .own _=>∃ o,h.get? a=some o
 | .xd fs=>∃ mA,h.Ns1 a mA∧∀ f,RelO (fs.lookup f) (mA f)
 | .rng lo hi=>∃ t u v,h.get? a=some { cls:=.type "range",data:=.fields #[.int lo t,.int hi u,.int 1 v] }
 | .frz o u=>h.get? a=some o∧zbl H h a u
 | .tbl ps=>h.get? a=some { cls:=.none,data:=.fields ps }
 | .met f x=>h.get? a=some (PySem.W.methodObj (.ref f) (.ref x))
 | .ext φ=>φ h∧(∃ o,h.get? a=some o)∧∀ h1 h2:Heap,φ h1→(∀ o,h1.get? a=some o→h2.get? a=some o)→φ h2
def HOk (H:Hp) (h:Heap):Prop:=∀ a o,H a=some o→zbl P w H h a o
end
section
variable {P:Program} {w:World} {H H':Hp} {h h':Heap} {a:Addr} {o:HO}
theorem zbl.lt (x:zbl P w H h a o):a < h.objs.size:=by
 cases o with
 | lst xs=>obtain ⟨_,_,_,_,e⟩:=x;exact Heap.lt_size e
 | tup xs=>obtain ⟨_,_,_,p⟩:=x;exact p.lt
 | dK kvs=>obtain ⟨_,_,_,_,o,_,_,e,_⟩:=x;exact Heap.lt_size e
 | dT kvs=>obtain ⟨_,_,_,_,o,_,_,e,_⟩:=x;exact Heap.lt_size e
 | set S n=>obtain ⟨o,_,_,_,e,_⟩:=x;exact Heap.lt_size e
 | ins C dx fs=>obtain ⟨_,_,_,e,_⟩:=x;exact Heap.lt_size e
 | own y=>obtain ⟨_,e⟩:=x;exact Heap.lt_size e
 | xd fs=>obtain ⟨_,⟨_,_,_,e,_⟩,_⟩:=x;exact Heap.lt_size e
 | rng lo hi=>obtain ⟨_,_,_,e⟩:=x;exact Heap.lt_size e
 | frz ob u=>obtain ⟨e,_⟩:=x;exact Heap.lt_size e
 | tbl ps=>exact Heap.lt_size (show h.get? a=some _ from x)
 | met f y=>exact Heap.lt_size (show h.get? a=some _ from x)
 | ext φ=>obtain ⟨_,⟨_,e⟩,_⟩:=x;exact Heap.lt_size e
theorem Paired.mapP {α β:Type} {F G:α→β→Prop}:∀ {l₁:List α} {l₂:List β},Paired F l₁ l₂→(∀ a b,F a b→G a b)→Paired G l₁ l₂
 | _,_,.nil,_=>.nil
 | _,_,.cons r t,f=>.cons (f _ _ r) (Paired.mapP t f)
theorem zbl.stay (x:zbl P w H h a o) (k:∀ b u,(b=a∨H b=some (.own a))→h.get? b=some u→h'.get? b=some u)
  (ho:∀ b,H b=some (.own a)→H' b=some (.own a)) (ht:∀ b xs,H b=some (.tup xs)→H' b=some (.tup xs)):zbl P w H' h' a o:=by
 induction o with
 | lst xs=>obtain ⟨z,its,n,r,e⟩:=x;exact ⟨z,its,n,r,k _ _ (.inl rfl) e⟩
 | tup xs=>obtain ⟨z,its,r,ob,e,c⟩:=x;exact ⟨z,its,r,ob,k _ _ (.inl rfl) e,c⟩
 | dK kvs=>obtain ⟨z,y,vs,r,ob,es,ep,e,c⟩:=x;exact ⟨z,y,vs,r,ob,es,ep,k _ _ (.inl rfl) e,c⟩
 | dT kvs =>
   obtain ⟨z,y,xs,r,ob,es,ep,e,c⟩:=x;exact ⟨z,y,xs,Paired.mapP r fun p q z=>⟨z.1,ht _ _ z.2.1,z.2.2⟩,ob,es,ep,k _ _ (.inl rfl) e,c⟩
 | set S n=>obtain ⟨ob,es,ep,t,e,c⟩:=x;exact ⟨ob,es,ep,t,k _ _ (.inl rfl) e,c⟩
 | ins C dx fs =>
   obtain ⟨d,z,ne,e,mA,⟨od,es,ep,e2,c⟩,r⟩:=x;exact ⟨ho _ d,z,ne,k _ _ (.inl rfl) e,mA,⟨od,es,ep,k _ _ (.inr d) e2,c⟩,r⟩
 | own y=>obtain ⟨ob,e⟩:=x;exact ⟨ob,k _ _ (.inl rfl) e⟩
 | xd fs=>obtain ⟨mA,⟨od,es,ep,e,c⟩,r⟩:=x;exact ⟨mA,⟨od,es,ep,k _ _ (.inl rfl) e,c⟩,r⟩
 | rng lo hi=>obtain ⟨t,u,v,e⟩:=x;exact ⟨t,u,v,k _ _ (.inl rfl) e⟩
 | frz ob u ih=>obtain ⟨e,q⟩:=x;exact ⟨k _ _ (.inl rfl) e,ih q⟩
 | tbl ps =>
   have e:h.get? a=some { cls:=.none,data:=.fields ps }:=x;show h'.get? a=some { cls:=.none,data:=.fields ps };exact k a _ (.inl rfl) e
 | met f y =>
   have e:h.get? a=some (PySem.W.methodObj (.ref f) (.ref y)):=x;show h'.get? a=some (PySem.W.methodObj (.ref f) (.ref y));exact k a _ (.inl rfl) e
 | ext φ=>obtain ⟨p,⟨o,e⟩,st⟩:=x;exact ⟨st _ _ p fun o q=>k _ _ (.inl rfl) q,⟨o,k _ _ (.inl rfl) e⟩,st⟩
theorem HOk.lt (x:HOk P w H h) (e:H a=some o):a < h.objs.size:=(x a o e).lt
theorem HOk.fresh (x:HOk P w H h) (e:h.objs.size≤a):H a=none:=by
 cases q:H a with
 | none=>rfl
 | some u=>exact absurd (Nat.lt_of_lt_of_le (x.lt q) e) (Nat.lt_irrefl _)
theorem HOk.kept (x:HOk P w H h) (k:∀ b u,h.get? b=some u→h'.get? b=some u):HOk P w H h':=fun a o e =>
 (x a o e).stay (fun b u _ q=>k b u q) (fun _ q=>q) fun _ _ q=>q
theorem HOk.laid (x:HOk P w H h) (k:∀ b u,h.get? b=some u→h'.get? b=some u) (hp:h.objs.size≤a) (new:zbl P w (upd H a o) h' a o):HOk P w (upd H a o) h':=fun b u e=>by
 have hn:=x.fresh hp
 by_cases hb:b=a
 ·subst hb;rw [zaq] at e;cases e;exact new
 ·rw [zaJ hb] at e;exact (x b u e).stay (fun c v _ q=>k c v q) (fun c q=>by rw [zaJ (zaf q hn)];exact q) fun c xs q=>by rw [zaJ (zaf q hn)];exact q
end
def Rd (H:Hp) (a:Addr) (u:HO):Prop:=H a=some u∨∃ o,H a=some (.frz o u)
theorem Rd.ok {P:Program} {w:World} {H:Hp} {h:Heap} {a:Addr} {u:HO} (r:Rd H a u) (x:HOk P w H h):zbl P w H h a u:=by
 rcases r with r | ⟨o,r⟩
 ·exact x a u r
 ·obtain ⟨_,q⟩:=x a _ r;exact q
def Mut:Option HO→Prop
 | some (.lst _)=>True
 | some (.dK _)=>True
 | some (.dT _)=>True
 | some (.set _ _)=>True
 | some (.ins _ _ _)=>True
 | some (.ext _)=>True
 | _=>False
section
variable {P:Program} {w:World} {H:Hp} {h h':Heap} {x e:Addr} {o':HO}
theorem HOk.write (ok:HOk P w H h) (mu:Mut (H x)) (he:e=x∨H e=some (.own x)) (k:∀ b u,b≠e→h.get? b=some u→h'.get? b=some u) (heo:∃ u,h'.get? e=some u)
  (new:zbl P w (upd H x o') h' x o'):HOk P w (upd H x o') h':=fun b u q=>by
 have nown:∀ c y,H c=some (.own y)→c≠x:=fun c y r z=>by subst z;rw [r] at mu;exact mu
 have ntup:∀ c xs,H c=some (.tup xs)→c≠x:=fun c xs r z=>by subst z;rw [r] at mu;exact mu
 by_cases hb:b=x
 ·subst hb;rw [zaq] at q;cases q;exact new
 ·rw [zaJ hb] at q
  by_cases hbe:b=e
  ·have q':H b=some (.own x):=by
    rcases he with z | z
    ·exact absurd (hbe.trans z) hb
    ·rw [hbe];exact z
   rw [q] at q';cases q'
   obtain ⟨v,hv⟩:=heo;exact ⟨v,by rw [hbe];exact hv⟩
  ·refine (ok b u q).stay (fun c v hc r=>k c v ?_ r) (fun c r=>by rw [zaJ (nown c b r)];exact r) fun c xs r=>by rw [zaJ (ntup c xs r)];exact r
   rcases hc with rfl | hc
   ·exact hbe
   ·rintro rfl;rcases he with z | z
    ·exact nown c b hc z
    ·rw [hc] at z;cases z;exact hb rfl
end
structure Un (fs ex:List Addr) (H H':Hp) (h h':Heap):Prop where
 keep:∀ b o,h.get? b=some o→H b=none→b∉fs→b∉ex→h'.get? b=some o
 slot:∀ b o,h.get? b=some o→H b=none→b∈fs→b∉ex→∃ sl,h'.get? b=some { o with slots:=sl }
 free:∀ b o,h.get? b=some o→H b=none→b∉ex→H' b=none
 there:∀ b o,h.get? b=some o→b∉ex→∃ o',h'.get? b=some o'
 tups:∀ b xs,H b=some (.tup xs)→H' b=some (.tup xs)
 frzs:∀ b o u,H b=some (.frz o u)→H' b=some (.frz o u)
 tbls:∀ b ps,H b=some (.tbl ps)→∃ more,H' b=some (.tbl (ps++more))
section
variable {fs fs' ex ex':List Addr} {H H1 H2:Hp} {h h1 h2 h':Heap} {a x e:Addr} {o:HO}
theorem Un.any (u:Un fs ex H H1 h h1) {b:Addr} {ob:Obj} (q:h.get? b=some ob) (n:H b=none) (hx:b∉ex):∃ sl,h1.get? b=some { ob with slots:=sl }:=by
 by_cases hb:b∈fs
 ·exact u.slot b ob q n hb hx
 ·exact ⟨ob.slots,u.keep b ob q n hb hx⟩
theorem Un.kept (k:∀ b u,h.get? b=some u→h'.get? b=some u):Un fs ex H H h h' :=
 ⟨fun b ob q _ _ _=>k b ob q,fun b ob q _ _ _=>⟨ob.slots,k b ob q⟩,fun _ _ _ n _=>n,fun b ob q _=>⟨ob,k b ob q⟩,fun _ _ q=>q,fun _ _ _ q=>q,fun _ ps q=>⟨#[],by rw [q];simp⟩⟩
theorem Un.refl:Un fs ex H H h h:=Un.kept fun _ _ q=>q
theorem Un.laid (k:∀ b u,h.get? b=some u→h'.get? b=some u) (hp:h.objs.size≤a) (hn:H a=none):Un fs ex H (upd H a o) h h' where
 keep:=fun b u q _ _ _=>k b u q
 slot:=fun b u q _ _ _=>⟨u.slots,k b u q⟩
 free:=fun b u q n _=>by rw [zaJ (Nat.ne_of_lt (Nat.lt_of_lt_of_le (Heap.lt_size q) hp))];exact n
 there:=fun b u q _=>⟨u,k b u q⟩
 tups:=fun b xs q=>by rw [zaJ (zaf q hn)];exact q
 frzs:=fun b u xs q=>by rw [zaJ (zaf q hn)];exact q
 tbls:=fun b ps q=>⟨#[],by rw [zaJ (zaf q hn),q];simp⟩
theorem Un.write (mu:Mut (H x)) (he:e=x∨H e=some (.own x)) (k:∀ b u,b≠e→h.get? b=some u→h'.get? b=some u) (heo:∃ u,h'.get? e=some u):Un fs ex H (upd H x o) h h':=by
 have hx:∀ b,H b=none→b≠x:=fun b n z=>by subst z;rw [n] at mu;exact mu
 have hb:∀ b,H b=none→b≠e:=fun b n z=>by
  subst z;rcases he with r | r
  ·exact hx b n r
  ·rw [n] at r;cases r
 have hm:∀ b u,H b=some u→¬Mut (some u)→b≠x:=fun b u q nm z=>by subst z;rw [q] at mu;exact nm mu
 refine ⟨fun b u q n _ _=>k b u (hb b n) q,fun b u q n _ _=>⟨u.slots,k b u (hb b n) q⟩,fun b u q n _=>by rw [zaJ (hx b n)];exact n,fun b u q _=>?_,
  fun b xs q=>by rw [zaJ (hm b _ q fun z=>z)];exact q,fun b u xs q=>by rw [zaJ (hm b _ q fun z=>z)];exact q,fun b ps q=>⟨#[],by rw [zaJ (hm b _ q fun z=>z),q];simp⟩⟩
 by_cases hbe:b=e
 ·subst hbe;exact heo
 ·exact ⟨u,k b u hbe q⟩
end
def trk (h:Heap) (H:Hp):List Addr:=(List.range h.objs.size).filter fun a=>(H a).isSome
def hidT (h:Heap) (H:Hp):Heap:=PySem.W.hideAll h (trk h H)
theorem zg6 (h:Heap) (H:Hp):(hidT h H).objs.size=h.objs.size:=PySem.W.hideAll_size _ _
theorem zio {h:Heap} {H:Hp} {b:Addr} {o:Obj} (e:h.get? b=some o) (n:H b=none):(hidT h H).get? b=some o :=
 PySem.W.hideAll_get _ e fun hm=>by
  have q:(H b).isSome=true:=(List.mem_filter.mp hm).2;rw [n] at q;simp at q
theorem zjs {h:Heap} {H:Hp} {b:Addr} {o:Obj} (e:(hidT h H).get? b=some o):h.get? b=some o∧H b=none:=by
 have e':h.get? b=some o:=PySem.W.of_hideAll (trk h H) e;refine ⟨e',?_⟩
 cases q:H b with
 | none=>rfl
 | some x =>
   have hm:b∈trk h H:=List.mem_filter.mpr ⟨List.mem_range.mpr (Heap.lt_size e'),by simp [q]⟩;have z:(hidT h H).get? b=none:=PySem.W.hideAll_none (trk h H) hm;rw [z] at e;cases e
end L2
namespace L2
open PySem PySem.Spec PyProof.Rows
structure Mod (K:PySem.W.Frag) (mg:Str→Option Value) (base:Heap):Prop where
 kin:K.In base
 glob:base.Ns mainGlobals mg
 blt:∃ mb,base.Ns builtinsNs mb∧∀ x:Str,x≠"__name__"→mb x=bootBuiltins x
 nolimit:base.NoLimit
structure Cx where
 prog:Program
 w:World
 K:PySem.W.Frag
 mg:Str→Option Value
 base:Heap
 A:Around
 N:List Str
 s₀:Shared
 H₀:Hp
 env:Env
 outer:List Env
 stack:List Env
 ex:List Addr
 fn:Str→Bool
 calm:Bool
 pn:List (Addr×Obj)
 xe:Value→Shared→Prop
def frs (l:List Env):List Addr:=l.filterMap (·.frame)
abbrev Cx.fs (X:Cx):List Addr:=frs X.outer
def Vis (sc:Scope) (x:Str):Prop:=sc.names.lookup x=some .local∨sc.names.lookup x=some .cell∨sc.names.lookup x=some .free
def Loc (sc:Scope) (x:Str):Prop:=sc.names.lookup x=some .local∨sc.names.lookup x=some .cell
def Look (env:Env) (h:Heap) (m:Str→Option Value) (x:Str) (u:Value):Prop :=
 (env.kindOf x=some .local∧m x=some u)∨((env.kindOf x=some .cell∨env.kindOf x=some .free)∧∃ c,env.cells.lookup x=some c∧h.IsCell c (some u))
structure Cx.Ok (X:Cx):Prop where
 mod:Mod X.K X.mg X.base
 kind:X.env.scope.kind=.function
 glob:X.env.globals=mainGlobals
 blt:X.env.builtins=builtinsNs
 above:X.s₀.heap.objs.size≤X.env.locals
 inj:∀ x y c,X.env.cells.lookup x=some c→X.env.cells.lookup y=some c→x=y
 has:∀ x,(X.env.kindOf x=some .cell∨X.env.kindOf x=some .free)→∃ c,X.env.cells.lookup x=some c
 cab:∀ x c,X.fn x=true→X.env.cells.lookup x=some c→X.s₀.heap.objs.size≤c
 hd:X.calm=true→X.A.handled=none
 frames:X.A.frames=some X.stack
 stk:X.stack=X.outer∨(X.stack=X.env::X.outer∧X.env.frame=some X.env.locals)
 exf:∀ b∈X.ex,b≠X.env.locals∧∀ x c,X.env.cells.lookup x=some c→c≠b
 bs:∀ b o,X.base.get? b=some o→X.s₀.heap.get? b=some o∧X.H₀ b=none
 bsz:X.base.objs.size≤X.s₀.heap.objs.size
 noex:∀ b o,X.base.get? b=some o→b∉X.ex
 exfs:∀ b∈X.ex,b∉X.fs
 funs:X.s₀.heap.FunFrames X.base X.outer
 frf:∀ b∈X.fs,X.H₀ b=none
structure Inv (X:Cx) (pins:List (Addr×Obj)) (σ:List (Option V)) (H:Hp) (s:Shared):Prop where
 ok:X.Ok
 os:s.os=X.s₀.os
 bare:AllBare s.gens
 base:Un X.fs X.ex X.H₀ H X.s₀.heap s.heap
 loc:∃ m,s.heap.Ns X.env.locals m∧∀ (i:Nat) (x:Str) (v:V),X.N[i]? = some x→σ[i]? = some (some v)→Vis X.env.scope x→∃ u,RelV v u∧Look X.env s.heap m x u
 cell:∀ x c,X.env.cells.lookup x=some c→∃ v,s.heap.IsCell c v
 free:H X.env.locals=none
 freeC:∀ x c,X.env.cells.lookup x=some c→H c=none
 pin:∀ p∈X.pn++pins,s.heap.get? p.1=some p.2∧H p.1=none∧p.1≠X.env.locals∧p.1∉X.fs∧∀ v,p.2.data≠.cell v
 hok:HOk X.prog X.w H s.heap
 len:σ.length=X.N.length
section
variable {X:Cx} {pins:List (Addr×Obj)} {σ:List (Option V)} {H H':Hp} {s:Shared} {h':Heap}
theorem Cx.Ok.nofr (ok:X.Ok) {b:Addr} {o:Obj} (e:X.base.get? b=some o):b∉X.fs:=fun hb=>by
 have:=(ok.funs.mem hb).1;rw [e] at this;cases this
theorem Inv.bs (I:Inv X pins σ H s):∀ b o,X.base.get? b=some o→s.heap.get? b=some o∧H b=none:=fun b o e =>
 ⟨I.base.keep b o (I.ok.bs b o e).1 (I.ok.bs b o e).2 (I.ok.nofr e) (I.ok.noex b o e),I.base.free b o (I.ok.bs b o e).1 (I.ok.bs b o e).2 (I.ok.noex b o e)⟩
theorem Inv.bk (I:Inv X pins σ H s):∀ b o,X.base.get? b=some o→s.heap.get? b=some o:=fun b o e=>(I.bs b o e).1
theorem Inv.mod (I:Inv X pins σ H s):Mod X.K X.mg X.base:=I.ok.mod
theorem Inv.kIn (I:Inv X pins σ H s):X.K.In s.heap:=I.ok.mod.kin.keeps I.bk
theorem Inv.lt (I:Inv X pins σ H s):X.env.locals < s.heap.objs.size:=let ⟨_,hn,_⟩:=I.loc;hn.lt
theorem Inv.sz (I:Inv X pins σ H s):X.s₀.heap.objs.size≤s.heap.objs.size:=Nat.le_trans I.ok.above (Nat.le_of_lt I.lt)
theorem Inv.nofs (I:Inv X pins σ H s) {a:Addr} (h:s.heap.objs.size≤a):a∉X.fs:=fun hb=>by
 obtain ⟨_,o,ho,_⟩:=I.ok.funs.mem hb;exact absurd (Nat.lt_of_lt_of_le (Heap.lt_size ho) (Nat.le_trans I.sz h)) (Nat.lt_irrefl _)
theorem Inv.cne (I:Inv X pins σ H s):∀ x c,X.env.cells.lookup x=some c→c≠X.env.locals:=fun x c e z=>by
 obtain ⟨v,o,ho,hd⟩:=I.cell x c e;obtain ⟨m,⟨o',es,ep,ho',hd',_⟩,_⟩:=I.loc;rw [z,ho'] at ho;cases ho;rw [hd'] at hd;cases hd
theorem Inv.funs (I:Inv X pins σ H s):s.heap.FunFrames X.base X.outer:=by
 have all:∀ (l:List Env),(∀ b∈frs l,b∈X.fs)→X.s₀.heap.FunFrames X.base l→s.heap.FunFrames X.base l:=by
  intro l
  induction l with
  | nil=>intro _ _;trivial
  | cons env r ih =>
    intro hs hl;obtain ⟨hk,⟨L,o,hf,hn,ho,hd⟩,hr⟩:=hl;have hL:L∈X.fs:=hs L (by unfold frs;rw [List.filterMap_cons,hf];exact List.mem_cons_self);obtain ⟨sl,e⟩:=I.base.slot L o ho (I.ok.frf L hL) hL fun z=>I.ok.exfs L z hL;exact ⟨hk,⟨L,_,hf,hn,e,hd⟩,ih (fun b hb=>hs b (by unfold frs;rw [List.filterMap_cons,hf];exact List.mem_cons_of_mem _ hb)) hr⟩
 exact all X.outer (fun _ hb=>hb) I.ok.funs
theorem Inv.stack (I:Inv X pins σ H s):s.heap.FunFrames X.base X.stack:=by
 rcases I.ok.stk with e | ⟨e,hf⟩
 ·rw [e];exact I.funs
 ·rw [e];obtain ⟨m,hn,_⟩:=I.loc;refine .cons (by rw [I.ok.kind];decide) hf hn ?_ I.funs;exact Heap.get?_none_of_le (Nat.le_trans I.ok.bsz I.ok.above)
theorem Inv.stkSub (I:Inv X pins σ H s):∀ b∈frs X.stack,b∈X.env.locals::X.fs:=fun b hb=>by
 rcases I.ok.stk with e | ⟨e,hf⟩
 ·rw [e] at hb;exact List.mem_cons_of_mem _ hb
 ·rw [e] at hb;unfold frs at hb;rw [List.filterMap_cons,hf] at hb;exact hb
theorem Inv.stkFree (I:Inv X pins σ H s):∀ b∈frs X.stack,H b=none:=fun b hb=>by
 rcases List.mem_cons.mp (I.stkSub b hb) with e | hb
 ·rw [e];exact I.free
 ·obtain ⟨_,o,ho,_⟩:=I.ok.funs.mem hb;exact I.base.free b o ho (I.ok.frf b hb) fun z=>I.ok.exfs b z hb
theorem Inv.step {g':Array GenState} {t':Nat} {d':Drawn} {ch:List Addr} (I:Inv X pins σ H s)
  (hch:∀ b∈ch,(b∈X.ex∨X.s₀.heap.objs.size≤b)∧b≠X.env.locals∧(∀ x c,X.env.cells.lookup x=some c→c≠b)∧∀ p∈X.pn++pins,p.1≠b)
  (keep:∀ b o,b≠X.env.locals→b∉X.fs→b∉ch→s.heap.get? b=some o→H b=none→h'.get? b=some o)
  (slot:∀ b o,b≠X.env.locals→b∈X.fs→b∉ch→s.heap.get? b=some o→H b=none→∃ sl,h'.get? b=some { o with slots:=sl }) (free:∀ b o,b∉ch→s.heap.get? b=some o→H b=none→H' b=none)
  (there:∀ b o,b∉ch→s.heap.get? b=some o→∃ o',h'.get? b=some o')
  (tups:∀ b xs,H b=some (.tup xs)→H' b=some (.tup xs)) (frzs:∀ b o u,H b=some (.frz o u)→H' b=some (.frz o u)) (tbls:∀ b ps,H b=some (.tbl ps)→∃ more,H' b=some (.tbl (ps++more)))
  (ns:∀ m,s.heap.Ns X.env.locals m→h'.Ns X.env.locals m) (hok:HOk X.prog X.w H' h') (hg:AllBare g') :
  Inv X pins σ H' { s with heap:=h',gens:=g',drawn:=d',toks:=t' }:=by
 have neL:∀ b o,X.s₀.heap.get? b=some o→b≠X.env.locals:=fun b o e=>Nat.ne_of_lt (Nat.lt_of_lt_of_le (Heap.lt_size e) I.ok.above);have neC:∀ b o,X.s₀.heap.get? b=some o→b∉X.ex→b∉ch:=fun b o e hx hb=>by
  rcases (hch b hb).1 with z | z
  ·exact hx z
  ·exact absurd (Nat.lt_of_lt_of_le (Heap.lt_size e) z) (Nat.lt_irrefl _)
 have cellK:∀ x c,X.env.cells.lookup x=some c→∀ v,s.heap.IsCell c v→h'.IsCell c v:=fun x c e v ⟨o,ho,hd⟩=>by
  have nch:c∉ch:=fun z=>(hch c z).2.2.1 x c e rfl
  by_cases hc:c∈X.fs
  ·obtain ⟨sl,q⟩:=slot c o (I.cne x c e) hc nch ho (I.freeC x c e);exact ⟨_,q,hd⟩
  ·exact ⟨o,keep c o (I.cne x c e) hc nch ho (I.freeC x c e),hd⟩
 refine ⟨I.ok,I.os,hg,⟨fun b o e n hb hx=>?_,fun b o e n hb hx=>?_,fun b o e n hx=>?_,fun b o e hx=>?_,fun b xs e=>tups b xs (I.base.tups b xs e),fun b o xs e=>frzs b o xs (I.base.frzs b o xs e),fun b ps e=>?_⟩,?_,fun x c e=>?_,?_,fun x c e=>?_,fun p hp=>?_,hok,I.len⟩
 ·exact keep b o (neL b o e) hb (neC b o e hx) (I.base.keep b o e n hb hx) (I.base.free b o e n hx)
 ·obtain ⟨sl,e1⟩:=I.base.slot b o e n hb hx;obtain ⟨sl',e2⟩:=slot b _ (neL b o e) hb (neC b o e hx) e1 (I.base.free b o e n hx);exact ⟨sl',e2⟩
 ·obtain ⟨o',e1⟩:=I.base.there b o e hx;exact free b o' (neC b o e hx) e1 (I.base.free b o e n hx)
 ·obtain ⟨o',e1⟩:=I.base.there b o e hx;exact there b o' (neC b o e hx) e1
 ·obtain ⟨m1,e1⟩:=I.base.tbls b ps e;obtain ⟨m2,e2⟩:=tbls b _ e1;exact ⟨m1++m2,by rw [e2,Array.append_assoc]⟩
 ·obtain ⟨m,hn,hl⟩:=I.loc;refine ⟨m,ns m hn,fun i x v e1 e2 e3=>?_⟩;obtain ⟨u,r,l⟩:=hl i x v e1 e2 e3;refine ⟨u,r,?_⟩;rcases l with l | ⟨k,c,e,z⟩
  ·exact .inl l
  ·exact .inr ⟨k,c,e,cellK x c e _ z⟩
 ·obtain ⟨v,z⟩:=I.cell x c e;exact ⟨v,cellK x c e v z⟩
 ·obtain ⟨m,⟨o,_,_,ho,_⟩,_⟩:=I.loc;exact free _ o (fun z=>(hch _ z).2.1 rfl) ho I.free
 ·obtain ⟨v,o,ho,hd⟩:=I.cell x c e;exact free c o (fun z=>(hch c z).2.2.1 x c e rfl) ho (I.freeC x c e)
 ·obtain ⟨e,n,ne,nf,d⟩:=I.pin p hp;have nch:p.1∉ch:=fun z=>(hch p.1 z).2.2.2 p hp rfl;exact ⟨keep p.1 p.2 ne nf nch e n,free p.1 p.2 nch e n,ne,nf,d⟩
theorem Inv.un {t':Nat} (I:Inv X pins σ H s) (u:Un X.fs [] H H' s.heap h') (hok:HOk X.prog X.w H' h'):Inv X pins σ H' { s with heap:=h',toks:=t' }:=by
 obtain ⟨m,⟨o,es,ep,ho,r⟩,_⟩:=id I.loc;obtain ⟨sl,hL⟩:=u.any ho I.free (by simp);exact I.step (g':=s.gens) (d':=s.drawn) (ch:=[]) (fun _ z=>nomatch z) (fun b o _ hb _ e n=>u.keep b o e n hb (by simp)) (fun b o _ hb _ e n=>u.slot b o e n hb (by simp)) (fun b o _ e n=>u.free b o e n (by simp)) (fun b o _ e=>u.there b o e (by simp)) u.tups u.frzs u.tbls (fun m' hm=>by
  obtain ⟨o',es',ep',ho',r'⟩:=hm;rw [ho] at ho';cases ho'
  exact ⟨_,es',ep',hL,r'⟩) hok I.bare
theorem Inv.call {g':Array GenState} {t':Nat} {d':Drawn} {ch:List Addr} (I:Inv X pins σ H s) (u:Un (frs X.stack) ch H H' s.heap h') (hok:HOk X.prog X.w H' h') (hg:AllBare g')
  (hch:∀ b∈ch,(b∈X.ex∨X.s₀.heap.objs.size≤b)∧b≠X.env.locals∧(∀ x c,X.env.cells.lookup x=some c→c≠b)∧∀ p∈X.pn++pins,p.1≠b) :
  Inv X pins σ H' { s with heap:=h',gens:=g',drawn:=d',toks:=t' }:=by
 obtain ⟨m,⟨o,es,ep,ho,r⟩,_⟩:=id I.loc;obtain ⟨sl,hL⟩:=u.any ho I.free fun z=>(hch _ z).2.1 rfl;exact I.step (ch:=ch) hch (fun b o hL hb hc e n=>u.keep b o e n (fun z=>(List.mem_cons.mp (I.stkSub b z)).elim hL hb) hc) (fun b o _ _ hc e n=>u.any e n hc) (fun b o hc e n=>u.free b o e n hc) (fun b o hc e=>u.there b o e hc) u.tups u.frzs u.tbls (fun m' hm=>by
  obtain ⟨o',es',ep',ho',r'⟩:=hm;rw [ho] at ho';cases ho'
  exact ⟨_,es',ep',hL,r'⟩) hok hg
theorem Inv.turned {t':Nat} {it:Addr} (I:Inv X pins σ H s) (k:∀ b o,b≠it→s.heap.get? b=some o→h'.get? b=some o) (hn:H it=none) (hL:it≠X.env.locals)
  (h1:it∈X.ex∨X.s₀.heap.objs.size≤it) (h2:∀ x c,X.env.cells.lookup x=some c→c≠it) (h3:∀ p∈X.pn++pins,p.1≠it):Inv X pins σ H { s with heap:=h',toks:=t' }:=by
 have nit:∀ b u,H b=some u→b≠it:=fun b u e z=>by rw [z,hn] at e;cases e
 refine I.step (g':=s.gens) (d':=s.drawn) (ch:=[it]) (fun b hb=>?_) (fun b o _ _ hc e _=>k b o (fun z=>hc (by simp [z])) e) (fun b o _ _ hc e _=>⟨o.slots,k b o (fun z=>hc (by simp [z])) e⟩) (fun _ _ _ _ n=>n)
  (fun b o hc e=>⟨o,k b o (fun z=>hc (by simp [z])) e⟩) (fun _ _ e=>e) (fun _ _ _ e=>e) (fun b ps e=>⟨#[],by rw [e];simp⟩) (fun m hm=>?_) (fun b u e=>?_) I.bare
 ·have e:b=it:=by simpa using hb
  subst e;exact ⟨h1,hL,h2,h3⟩
 ·obtain ⟨o,es,ep,ho,r⟩:=hm;exact ⟨o,es,ep,k _ o (Ne.symm hL) ho,r⟩
 ·refine (I.hok b u e).stay (fun c v hc q=>k c v ?_ q) (fun _ q=>q) fun _ _ q=>q;rcases hc with z | z
  ·rw [z];exact nit b u e
  ·exact nit c _ z
theorem Inv.tok (I:Inv X pins σ H s) (t:Nat):Inv X pins σ H { s with toks:=t }:=I.un (h':=s.heap) (t':=t) Un.refl I.hok
theorem Inv.kept {t':Nat} (I:Inv X pins σ H s) (k:∀ b u,s.heap.get? b=some u→h'.get? b=some u):Inv X pins σ H { s with heap:=h',toks:=t' }:=I.un (Un.kept k) (I.hok.kept k)
theorem Inv.laid {a:Addr} {o:HO} {t':Nat} (I:Inv X pins σ H s) (k:∀ b u,s.heap.get? b=some u→h'.get? b=some u) (hp:s.heap.objs.size≤a) (new:zbl X.prog X.w (upd H a o) h' a o) :
  Inv X pins σ (upd H a o) { s with heap:=h',toks:=t' }:=I.un (Un.laid k hp (I.hok.fresh hp)) (I.hok.laid k hp new)
theorem Inv.write {x e:Addr} {o:HO} {t':Nat} (I:Inv X pins σ H s) (mu:Mut (H x)) (he:e=x∨H e=some (.own x)) (k:∀ b u,b≠e→s.heap.get? b=some u→h'.get? b=some u) (heo:∃ u,h'.get? e=some u)
  (new:zbl X.prog X.w (upd H x o) h' x o):Inv X pins σ (upd H x o) { s with heap:=h',toks:=t' }:=I.un (Un.write mu he k heo) (I.hok.write mu he k heo new)
theorem Inv.pins_of {pins':List (Addr×Obj)} (I:Inv X pins σ H s) (h:∀ p∈pins',s.heap.get? p.1=some p.2∧H p.1=none∧p.1≠X.env.locals∧p.1∉X.fs∧∀ v,p.2.data≠.cell v):Inv X pins' σ H s :=
 ⟨I.ok,I.os,I.bare,I.base,I.loc,I.cell,I.free,I.freeC,fun p hp=>(List.mem_append.mp hp).elim (fun z=>I.pin p (List.mem_append_left _ z)) (h p),I.hok,I.len⟩
theorem zgc {N:List Str} (hN:N.Nodup) {i j:Nat} {x:Str} (a:N[i]? = some x) (b:N[j]? = some x):i=j:=by
 obtain ⟨h1,e1⟩:=List.getElem?_eq_some_iff.mp a;obtain ⟨h2,e2⟩:=List.getElem?_eq_some_iff.mp b;exact (List.getElem_inj hN).mp (e1.trans e2.symm)
theorem zeU {M:Model} {A:Around} {E:Value→Shared→Prop} {i:Nat} {x:Str} {v:V} {u:Value} {Q:Unit→Shared→Prop} (I:Inv X pins σ H s) (hN:X.N.Nodup) (hi:X.N[i]? = some x) (hx:Loc X.env.scope x) (r:RelV v u)
  (h:∀ s',Inv X pins (σ.set i (some v)) H s'→(∃ a,Heap.SameBut a s.heap s'.heap∧(a=X.env.locals∨X.env.cells.lookup x=some a))→Q () s') (hf:X.fn x=true∨X.env.scope.names.lookup x=some .local:=by first | exact .inl rfl | exact .inr rfl | assumption):wpAny M A (storeName X.env x u) Q E s:=by
 obtain ⟨m,hn,hl⟩:=id I.loc;have hcls:(X.env.scope.kind == .class || (X.env.scope.kind == .module && X.env.locals != X.env.globals))=false:=by rw [I.ok.kind];rfl
 have hiσ:i < σ.length:=by rw [I.len];exact (List.getElem?_eq_some_iff.mp hi).1
 have cne:=I.cne;have tracked:∀ {a:Addr} {h':Heap},(∃ o,s.heap.get? a=some o∧H a=none)→Heap.SameBut a s.heap h'→HOk X.prog X.w H h':=fun {a h'} ha hs b ob e=>by
  obtain ⟨_,_,hfree⟩:=ha;refine (I.hok b ob e).stay (fun c w' hc q=>(hs.2 c ?_).trans q) (fun _ q=>q) fun _ _ q=>q;rintro rfl;rcases hc with rfl | hc
  ·rw [hfree] at e;cases e
  ·rw [hfree] at hc;cases hc
 rcases hx with hk | hk
 ·refine wpAny_storeName_local hk hn (fun h' hn' hs=>?_) hcls;obtain ⟨oL,_,_,hoL,_⟩:=id hn;refine h _ ⟨I.ok,I.os,I.bare,⟨fun b o e n hb hx=>?_,fun b o e n hb hx=>?_,I.base.free,fun b o e hx=>?_,I.base.tups,I.base.frzs,I.base.tbls⟩,⟨_,hn',fun j y v' e1 e2 e3=>?_⟩,fun y c e=>?_,I.free,I.freeC,fun p hp=>?_,tracked ⟨oL,hoL,I.free⟩ hs,by simpa using I.len⟩ ⟨_,hs,.inl rfl⟩
  ·exact (hs.2 b (Nat.ne_of_lt (Nat.lt_of_lt_of_le (Heap.lt_size e) I.ok.above))).trans (I.base.keep b o e n hb hx)
  ·obtain ⟨sl,e1⟩:=I.base.slot b o e n hb hx;exact ⟨sl,(hs.2 b (Nat.ne_of_lt (Nat.lt_of_lt_of_le (Heap.lt_size e) I.ok.above))).trans e1⟩
  ·obtain ⟨o',e1⟩:=I.base.there b o e hx;exact ⟨o',(hs.2 b (Nat.ne_of_lt (Nat.lt_of_lt_of_le (Heap.lt_size e) I.ok.above))).trans e1⟩
  ·by_cases hj:j=i
   ·subst hj;rw [hi] at e1;cases e1
    rw [List.getElem?_set_self hiσ] at e2
    cases e2
    exact ⟨u,r,.inl ⟨hk,by simp⟩⟩
   ·rw [List.getElem?_set_ne (Ne.symm hj)] at e2;obtain ⟨u',r',q⟩:=hl j y v' e1 e2 e3;refine ⟨u',r',?_⟩;rcases q with ⟨k,e⟩ | ⟨k,c,e,z⟩
    ·refine .inl ⟨k,?_⟩;have:y≠x:=fun e=>hj (zgc hN e1 (e▸hi));simp [this,e]
    ·exact .inr ⟨k,c,e,z.sameBut hs (cne y c e)⟩
  ·obtain ⟨w',z⟩:=I.cell y c e;exact ⟨w',z.sameBut hs (cne y c e)⟩
  ·obtain ⟨e,n,ne,nf,d⟩:=I.pin p hp;exact ⟨(hs.2 p.1 ne).trans e,n,ne,nf,d⟩
 ·have hfn:X.fn x=true:=by
   rcases hf with z | z
   ·exact z
   ·rw [z] at hk;cases hk
  obtain ⟨c,hc⟩:=I.ok.has x (.inl hk);obtain ⟨w',z⟩:=I.cell x c hc;refine wpAny_storeName_cell I.ok.kind hk hc z (fun h' hc' hs=>?_);obtain ⟨oc,hoc,hocd⟩:=id z;refine h { s with heap:=h' } ⟨I.ok,I.os,I.bare,⟨fun b o e n hb hx=>?_,fun b o e n hb hx=>?_,I.base.free,fun b o e hx=>?_,I.base.tups,I.base.frzs,I.base.tbls⟩,⟨m,hn.sameBut hs (Ne.symm (cne x c hc)),fun j y v' e1 e2 e3=>?_⟩,fun y c' e=>?_,I.free,I.freeC,fun p hp=>?_,tracked ⟨oc,hoc,I.freeC x c hc⟩ hs,by simpa using I.len⟩ ⟨c,hs,.inr hc⟩
  ·exact (hs.2 b (Nat.ne_of_lt (Nat.lt_of_lt_of_le (Heap.lt_size e) (I.ok.cab x c hfn hc)))).trans (I.base.keep b o e n hb hx)
  ·obtain ⟨sl,e1⟩:=I.base.slot b o e n hb hx;exact ⟨sl,(hs.2 b (Nat.ne_of_lt (Nat.lt_of_lt_of_le (Heap.lt_size e) (I.ok.cab x c hfn hc)))).trans e1⟩
  ·obtain ⟨o',e1⟩:=I.base.there b o e hx;exact ⟨o',(hs.2 b (Nat.ne_of_lt (Nat.lt_of_lt_of_le (Heap.lt_size e) (I.ok.cab x c hfn hc)))).trans e1⟩
  ·by_cases hj:j=i
   ·subst hj;rw [hi] at e1;cases e1
    rw [List.getElem?_set_self hiσ] at e2
    cases e2
    exact ⟨u,r,.inr ⟨.inl hk,c,hc,hc'⟩⟩
   ·rw [List.getElem?_set_ne (Ne.symm hj)] at e2;obtain ⟨u',r',q⟩:=hl j y v' e1 e2 e3;refine ⟨u',r',?_⟩;rcases q with q | ⟨k,c',e,z'⟩
    ·exact .inl q
    ·refine .inr ⟨k,c',e,z'.sameBut hs ?_⟩;rintro rfl;exact hj (zgc hN e1 (I.ok.inj _ _ _ e hc▸hi))
  ·by_cases hcc:c'=c
   ·subst hcc;exact ⟨_,hc'⟩
   ·obtain ⟨w2,z2⟩:=I.cell y c' e;exact ⟨w2,z2.sameBut hs hcc⟩
  ·obtain ⟨e,n,ne,nf,d⟩:=I.pin p hp;refine ⟨(hs.2 p.1 ?_).trans e,n,ne,nf,d⟩;intro q;rw [q,hoc] at e;have q':oc=p.2:=Option.some.inj e;exact d w' (by rw [← q'];exact hocd)
theorem zgd {M:Model} {A:Around} {E:Value→Shared→Prop} {i:Nat} {x:Str} {v:V} {u:Value} {Q:Unit→Shared→Prop} (I:Inv X pins σ H s) (hN:X.N.Nodup) (hi:X.N[i]? = some x) (hx:Loc X.env.scope x) (r:RelV v u)
  (h:∀ s',Inv X pins (σ.set i (some v)) H s'→Q () s') (hf:X.fn x=true∨X.env.scope.names.lookup x=some .local:=by first | exact .inl rfl | exact .inr rfl | assumption):wpAny M A (storeName X.env x u) Q E s :=
 zeU I hN hi hx r (fun s' I' _=>h s' I') hf
theorem Inv.call' {s':Shared} {ch:List Addr} (I:Inv X pins σ H s) (ho:s'.os=s.os) (u:Un (frs X.stack) ch H H' s.heap s'.heap) (hok:HOk X.prog X.w H' s'.heap) (hg:AllBare s'.gens)
  (hch:∀ b∈ch,(b∈X.ex∨X.s₀.heap.objs.size≤b)∧b≠X.env.locals∧(∀ x c,X.env.cells.lookup x=some c→c≠b)∧∀ p∈X.pn++pins,p.1≠b):Inv X pins σ H' s':=by
 obtain ⟨h',g',d',t',o'⟩:=s';have e:o'=s.os:=ho;subst e;exact I.call (g':=g') (t':=t') (d':=d') u hok hg hch
end
abbrev XK:=Value→Option Addr→Hp→Prop
abbrev St:=List (Option V)
abbrev VK:=V→Hp→Prop
abbrev TE:=St→Hp→VK→Prop
abbrev TT:=St→Hp→(Bool→Hp→Prop)→Prop
abbrev TA:=St→Hp→(List V→Hp→Prop)→Prop
structure Ends where
 nx:St→Hp→Prop
 rt:VK
 bk:St→Hp→Prop:=fun _ _=>False
 ct:St→Hp→Prop:=fun _ _=>False
abbrev TS:=Ends→St→Hp→Prop
def EP (X:Cx) (pins:List (Addr×Obj)) (σ:St) (Q:VK) (u:Value) (s':Shared):Prop:=∃ v H',Inv X pins σ H' s'∧RelV v u∧Q v H'
def TP (X:Cx) (pins:List (Addr×Obj)) (σ:St) (Q:Bool→Hp→Prop) (b:Bool) (s':Shared):Prop:=∃ H',Inv X pins σ H' s'∧Q b H'
def AP (X:Cx) (pins:List (Addr×Obj)) (σ:St) (Q:List V→Hp→Prop) (us:List Value) (s':Shared):Prop:=∃ vs H',Inv X pins σ H' s'∧Vals vs us∧Q vs H'
def SP (X:Cx) (pins:List (Addr×Obj)) (D:Ends) (f:Flow) (s':Shared):Prop :=
 match f with
 | .next=>∃ σ' H',Inv X pins σ' H' s'∧D.nx σ' H'
 | .brk=>∃ σ' H',Inv X pins σ' H' s'∧D.bk σ' H'
 | .cont=>∃ σ' H',Inv X pins σ' H' s'∧D.ct σ' H'
 | .ret u=>∃ v σ' H',Inv X pins σ' H' s'∧RelV v u∧D.rt v H'
def PE (X:Cx) (e:Expr) (t:TE):Prop :=
 ∀ (pins:List (Addr×Obj)) (s:Shared) (σ:St) (H:Hp) (Q:VK),Inv X pins σ H s→t σ H Q→wpAny (model X.prog X.w) X.A (eval e X.env) (EP X pins σ Q) X.xe s
def PT (X:Cx) (e:Expr) (t:TT):Prop :=
 ∀ (pins:List (Addr×Obj)) (s:Shared) (σ:St) (H:Hp) (Q:Bool→Hp→Prop),Inv X pins σ H s→t σ H Q→wpAny (model X.prog X.w) X.A (isTrue e X.env (eval e X.env)) (TP X pins σ Q) X.xe s
def PW (X:Cx) (e:Expr) (t:TT):Prop :=
 ∀ (whole:Sem Value) (pins:List (Addr×Obj)) (s:Shared) (σ:St) (H:Hp) (Q:Bool→Hp→Prop),Inv X pins σ H s→t σ H Q→wpAny (model X.prog X.w) X.A (isTrue e X.env whole) (TP X pins σ Q) X.xe s
theorem PW.pt {X:Cx} {e:Expr} {t:TT} (h:PW X e t):PT X e t:=h _
def PA (X:Cx) (es:List Expr) (t:TA):Prop :=
 ∀ (pos:Pos) (pins:List (Addr×Obj)) (s:Shared) (σ:St) (H:Hp) (Q:List V→Hp→Prop),Inv X pins σ H s→t σ H Q→wpAny (model X.prog X.w) X.A (spliced (backTo pos (starEach es X.env))) (AP X pins σ Q) X.xe s
def PS (X:Cx) (st:Stmt) (t:TS):Prop :=
 ∀ (pins:List (Addr×Obj)) (s:Shared) (σ:St) (H:Hp) (D:Ends),Inv X pins σ H s→t D σ H→wpAny (model X.prog X.w) X.A (exec st X.env) (SP X pins D) X.xe s
def PSs (X:Cx) (st:List Stmt) (t:TS):Prop :=
 ∀ (pins:List (Addr×Obj)) (s:Shared) (σ:St) (H:Hp) (D:Ends),Inv X pins σ H s→t D σ H→wpAny (model X.prog X.w) X.A (execs st X.env) (SP X pins D) X.xe s
theorem thn {α:Type} {t:Sem α} {Q Q':α→Shared→Prop} {M:Model} {A:Around} {E:Value→Shared→Prop} {s:Shared} (h:wpAny M A t Q E s) (hQ:∀ a s,Q a s→Q' a s):wpAny M A t Q' E s:=wpAny_mono h hQ fun _ _ x=>x
end L2
namespace L2
open PySem PySem.Spec PyProof.Rows
section
variable {X:Cx}
def tVar (i:Nat):TE:=fun σ H Q=>∃ v,σ[i]? = some (some v)∧Q v H
def tC (v:V):TE:=fun _ H Q=>Q v H
theorem zkm {i:Nat} {x:Str} {pos:Pos} (hN:X.N[i]? = some x) (hv:Vis X.env.scope x) (hd:(x == ("__debug__" : Str))=false:=by decide) (hcd:(x == ("__classdict__" : Str))=false:=by decide):PE X (.Name x pos) (tVar i):=by
 intro pins s σ H Q I h;obtain ⟨v,e,h⟩:=h;obtain ⟨m,hn,hl⟩:=I.loc;obtain ⟨u,r,l⟩:=hl i x v hN e hv;have fin:EP X pins σ Q u s:=⟨v,H,I,r,h⟩
 rcases l with ⟨hk,hm⟩ | ⟨hk,c,hc,hcell⟩
 ·exact wpAny_Name (wpAny_loadName_local I.ok.kind hk hn hm fin) hd
 ·rcases hk with hk | hk
  ·exact wpAny_Name (wpAny_loadName_cell I.ok.kind hk hc hcell fin) hd
  ·exact wpAny_Name (wpAny_loadName_free I.ok.kind hk hc hcell fin hcd) hd
theorem zad {i j pos}:PE X (.Constant (.int i) j pos) (tC (.int i)):=fun _ _ _ H _ I h=>wpAny_Constant_int ⟨.int i,H,I.tok _,⟨_,rfl⟩,h⟩
theorem zeV {b j pos}:PE X (.Constant (.bool b) j pos) (tC (.bl b)):=fun _ _ _ H _ I h=>Constant_bool ⟨.bl b,H,I,rfl,h⟩
theorem zb2 {j pos}:PE X (.Constant .none j pos) (tC .non):=fun _ _ _ H _ I h=>Constant_none ⟨.non,H,I,rfl,h⟩
theorem zax {x j pos}:PE X (.Constant (.str x) j pos) (tC (.str x)):=fun _ _ _ H _ I h=>Calls.Constant_str ⟨.str x,H,I.tok _,⟨_,rfl⟩,h⟩
def Gl (X:Cx) (x:Str):Prop:=X.env.kindOf x=some .globalImplicit
theorem zc0 {E:Value→Shared→Prop} {pins:List (Addr×Obj)} {s:Shared} {σ:St} {H:Hp} {x:Str} {u:Value} {pos:Pos} {Q:Value→Shared→Prop} (I:Inv X pins σ H s) (hg:Gl X x) (hm:X.mg x=some u) (h:Q u s)
  (hd:(x == ("__debug__" : Str))=false:=by decide):wpAny (model X.prog X.w) X.A (eval (.Name x pos) X.env) Q E s :=
 Calls.Name_function_global I.ok.kind hg (Calls.loadGlobal_global (by rw [I.ok.glob];exact I.mod.glob.keeps I.bk) hm h) hd
theorem zc8 {E:Value→Shared→Prop} {pins:List (Addr×Obj)} {s:Shared} {σ:St} {H:Hp} {x:Str} {u:Value} {pos:Pos} {Q:Value→Shared→Prop} (I:Inv X pins σ H s) (hg:Gl X x) (hm:X.mg x=none) (hv:bootBuiltins x=some u) (h:Q u s)
  (hn:x≠"__name__":=by decide) (hd:(x == ("__debug__" : Str))=false:=by decide):wpAny (model X.prog X.w) X.A (eval (.Name x pos) X.env) Q E s:=by
 obtain ⟨mb,h1,h2⟩:=I.mod.blt;exact Calls.Name_function_global I.ok.kind hg (Calls.loadGlobal_builtin (by rw [I.ok.glob];exact I.mod.glob.keeps I.bk) hm (by rw [I.ok.blt];exact h1.keeps I.bk) ((h2 x hn).trans hv) h) hd
theorem zb3 {x:Str} {v:V} {u:Value} {pos:Pos} (hg:Gl X x) (hm:X.mg x=some u) (r:RelV v u) (hd:(x == ("__debug__" : Str))=false:=by decide):PE X (.Name x pos) (tC v) :=
 fun _ _ _ H _ I h=>zc0 I hg hm ⟨v,H,I,r,h⟩ hd
theorem zg7 {x:Str} {v:V} {u:Value} {pos:Pos} (hg:Gl X x) (hm:X.mg x=none) (hv:bootBuiltins x=some u) (r:RelV v u) (hn:x≠"__name__":=by decide) (hd:(x == ("__debug__" : Str))=false:=by decide):PE X (.Name x pos) (tC v) :=
 fun _ _ _ H _ I h=>zc8 I hg hm hv ⟨v,H,I,r,h⟩ hn hd
variable {a b:Expr} {ta tb:TE} {pos:Pos}
variable {tA tB':TT} {rest:List Expr}
def tAnd (t u:TT):TT:=fun σ H Q=>t σ H fun c H1=>if c=true then u σ H1 Q else Q false H1
def tOr (t u:TT):TT:=fun σ H Q=>t σ H fun c H1=>if c=true then Q true H1 else u σ H1 Q
def tNot (t:TT):TT:=fun σ H Q=>t σ H fun c H1=>Q (!c) H1
theorem zb4 (ha:PT X a tA):PW X (.BoolOp .And [a] pos) tA:=by
 intro wh pins s σ H Q I h;refine isTrue_and (thn (ha pins s σ H Q I h) fun c s1 e=>?_)
 cases c with
 | true=>exact isTrue_and_nil e
 | false=>exact e
theorem zcn (ha:PT X a tA):PW X (.BoolOp .Or [a] pos) tA:=by
 intro wh pins s σ H Q I h;refine isTrue_or (thn (ha pins s σ H Q I h) fun c s1 e=>?_)
 cases c with
 | false=>exact isTrue_or_nil e
 | true=>exact e
theorem zcG (ha:PT X a tA) (hb:PW X (.BoolOp .And (b::rest) pos) tB'):PW X (.BoolOp .And (a::b::rest) pos) (tAnd tA tB'):=by
 intro wh pins s σ H Q I h;refine isTrue_and (thn (ha pins s σ H _ I h) fun c s1 ⟨H1,I1,q1⟩=>?_)
 cases c with
 | true=>exact hb wh pins s1 σ H1 Q I1 q1
 | false=>exact ⟨H1,I1,q1⟩
theorem zdi (ha:PT X a tA) (hb:PW X (.BoolOp .Or (b::rest) pos) tB'):PW X (.BoolOp .Or (a::b::rest) pos) (tOr tA tB'):=by
 intro wh pins s σ H Q I h;refine isTrue_or (thn (ha pins s σ H _ I h) fun c s1 ⟨H1,I1,q1⟩=>?_)
 cases c with
 | true=>exact ⟨H1,I1,q1⟩
 | false=>exact hb wh pins s1 σ H1 Q I1 q1
theorem zeW (ha:PT X a tA):PT X (.UnaryOp .Not a pos) (tNot tA):=by
 intro pins s σ H Q I h;exact isTrue_not (ha pins s σ H (fun c H1=>Q (!c) H1) I h)
def tOrV (ta tb:TE):TE:=fun σ H Q=>ta σ H fun x H1=>∃ c,x=.bl c∧if c=true then Q (.bl true) H1 else tb σ H1 Q
theorem zi9 {op} {t:TE} (h:PE X a t):PE X (.BoolOp op [a] pos) t:=fun pins s σ H Q I hw=>BoolOp_one (h pins s σ H Q I hw)
theorem zkn (ha:PE X a ta) (hb:PE X (.BoolOp .Or (b::rest) pos) tb):PE X (.BoolOp .Or (a::b::rest) pos) (tOrV ta tb):=by
 intro pins s σ H Q I h;refine BoolOp_or (thn (ha pins s σ H _ I h) fun v s1 ⟨x,H1,I1,r1,q1⟩=>?_);obtain ⟨c,rfl,q1⟩:=q1
 cases r1
 refine wpAny_truthy_bool ?_
 cases c with
 | false=>exact hb pins s1 σ H1 Q I1 q1
 | true=>exact ⟨.bl true,H1,I1,rfl,q1⟩
def tIf (t:TT) (ta tb:TE):TE:=fun σ H Q=>t σ H fun c H1=>if c=true then ta σ H1 Q else tb σ H1 Q
theorem ziq {c:Expr} (hc:PT X c tA) (ha:PE X a ta) (hb:PE X b tb):PE X (.IfExp c a b pos) (tIf tA ta tb):=by
 intro pins s σ H Q I h;refine wpAny_IfExp (thn (hc pins s σ H _ I h) fun d s1 ⟨H1,I1,q1⟩=>?_)
 cases d with
 | true=>exact ha pins s1 σ H1 Q I1 q1
 | false=>exact hb pins s1 σ H1 Q I1 q1
end
end L2
namespace L2
open PySem PySem.Spec PyProof.Rows
def SqL (K:PySem.W.Frag) (H:Hp) (a:Addr) (xs:List V):Prop :=
 Rd H a (.lst xs) ∨
  ∃ (o:Obj) (its:Array Value) (n:Nat),K.lookup a=some o∧o.cls=.type "list"∧o.dict=none∧o.data=.seq its n∧its.size≤sizeLine∧Vals xs its.toList
def SqT (K:PySem.W.Frag) (H:Hp) (a:Addr) (xs:List V):Prop :=
 Rd H a (.tup xs) ∨
  ∃ (o:Obj) (its:Array Value) (n:Nat),K.lookup a=some o∧o.cls=.type "tuple"∧o.data=.seq its n∧its.size≤sizeLine∧Vals xs its.toList
def absV:Value→Option V
 | .none=>some .non
 | .bool b=>some (.bl b)
 | .int i _=>some (.int i)
 | .str x _=>some (.str x)
 | .bytes b _=>some (.byt b)
 | .float b _=>some (.flt b)
 | .ref a=>some (.ref a)
 | .type n=>some (.ty n)
 | _=>none
theorem RelV.abs {x:V} {u:Value} (r:RelV x u):absV u=some x:=by
 cases x with
 | non=>cases r;rfl
 | bl _=>cases r;rfl
 | int _=>obtain ⟨t,rfl⟩:=r;rfl
 | str _=>obtain ⟨t,rfl⟩:=r;rfl
 | byt _=>obtain ⟨t,rfl⟩:=r;rfl
 | flt _=>obtain ⟨t,rfl⟩:=r;rfl
 | ref _=>cases r;rfl
 | ty _=>cases r;rfl
theorem RelV.inj {x y:V} {u:Value} (r:RelV x u) (q:RelV y u):x=y:=Option.some.inj (r.abs.symm.trans q.abs)
theorem Vals.inj:∀ {xs ys:List V} {us:List Value},Vals xs us→Vals ys us→xs=ys
 | _,_,_,.nil,.nil=>rfl
 | _,_,_,.cons r t,.cons r' t'=>by rw [r.inj r',Vals.inj t t']
section
variable {X:Cx} {pins:List (Addr×Obj)} {σ:St} {H:Hp} {s:Shared} {a:Addr} {xs ys:List V}
theorem SqL.of {K:PySem.W.Frag} (h:H a=some (.lst xs)):SqL K H a xs:=.inl (.inl h)
theorem SqT.of {K:PySem.W.Frag} (h:H a=some (.tup xs)):SqT K H a xs:=.inl (.inl h)
theorem Inv.list (I:Inv X pins σ H s) (h:SqL X.K H a xs):∃ its:List Value,Vals xs its∧PlainL s.heap a its.toArray∧xs.length≤sizeLine:=by
 rcases h with h | ⟨o,its,n,hk,hc,hd,hs,hz,r⟩
 ·obtain ⟨z,its,n,r,e⟩:=h.ok I.hok;exact ⟨its,r,⟨_,n,e,rfl,rfl,rfl⟩,z⟩
 ·refine ⟨its.toList,r,⟨o,n,I.kIn a o hk,hc,hd,by simpa using hs⟩,?_⟩;have e:=r.length;simp only [Array.length_toList] at e;omega
theorem Inv.tuple (I:Inv X pins σ H s) (h:SqT X.K H a xs):∃ its:List Value,Vals xs its∧IsTup s.heap a its.toArray∧xs.length≤sizeLine:=by
 rcases h with h | ⟨o,its,n,hk,hc,hs,hz,r⟩
 ·obtain ⟨z,its,r,p⟩:=h.ok I.hok;exact ⟨its,r,p,z⟩
 ·refine ⟨its.toList,r,⟨o,I.kIn a o hk,hc,n,by simpa using hs⟩,?_⟩;have e:=r.length;simp only [Array.length_toList] at e;omega
theorem Inv.list_inj (I:Inv X pins σ H s) (h:SqL X.K H a xs) (h':SqL X.K H a ys):xs=ys:=by
 obtain ⟨its,r,⟨o,n,e,_,_,d⟩,_⟩:=I.list h;obtain ⟨its',r',⟨o',n',e',_,_,d'⟩,_⟩:=I.list h';rw [e] at e';cases e'
 rw [d] at d';injection d' with d1 _;have:its=its':=by simpa using congrArg Array.toList d1
 subst this;exact r.inj r'
end
abbrev Cx.wish (X:Cx) (E:Value→Shared→Prop):Cx:={ X with xe:=E }
abbrev Cx.nox (X:Cx):Cx:=X.wish fun _ _=>False
theorem Cx.Ok.wish {X:Cx} (ok:X.Ok) (E:Value→Shared→Prop):(X.wish E).Ok :=
 ⟨ok.mod,ok.kind,ok.glob,ok.blt,ok.above,ok.inj,ok.has,ok.cab,ok.hd,ok.frames,ok.stk,ok.exf,ok.bs,ok.bsz,ok.noex,ok.exfs,ok.funs,ok.frf⟩
theorem Cx.Ok.unwish {X:Cx} {E:Value→Shared→Prop} (ok:(X.wish E).Ok):X.Ok :=
 ⟨ok.mod,ok.kind,ok.glob,ok.blt,ok.above,ok.inj,ok.has,ok.cab,ok.hd,ok.frames,ok.stk,ok.exf,ok.bs,ok.bsz,ok.noex,ok.exfs,ok.funs,ok.frf⟩
section
variable {X:Cx} {pins:List (Addr×Obj)} {σ:St} {H:Hp} {s:Shared} {E:Value→Shared→Prop}
theorem Inv.wish (I:Inv X pins σ H s) (E:Value→Shared→Prop):Inv (X.wish E) pins σ H s:=⟨I.ok.wish E,I.os,I.bare,I.base,I.loc,I.cell,I.free,I.freeC,I.pin,I.hok,I.len⟩
theorem Inv.unwish (I:Inv (X.wish E) pins σ H s):Inv X pins σ H s:=⟨I.ok.unwish,I.os,I.bare,I.base,I.loc,I.cell,I.free,I.freeC,I.pin,I.hok,I.len⟩
theorem SP.unwish {D:Ends} {f:Flow} {s':Shared} (h:SP (X.wish E) pins D f s'):SP X pins D f s':=by
 cases f with
 | next=>obtain ⟨σ',H',I,q⟩:=h;exact ⟨σ',H',I.unwish,q⟩
 | brk=>obtain ⟨σ',H',I,q⟩:=h;exact ⟨σ',H',I.unwish,q⟩
 | cont=>obtain ⟨σ',H',I,q⟩:=h;exact ⟨σ',H',I.unwish,q⟩
 | ret u=>obtain ⟨v,σ',H',I,r,q⟩:=h;exact ⟨v,σ',H',I.unwish,r,q⟩
theorem PSs.nox {st:List Stmt} {t:TS} (h:PSs X.nox st t):PSs X st t:=fun pins s σ H D I hw =>
 wpAny_mono (h pins s σ H D (I.wish _) hw) (fun _ _ q=>q.unwish) fun _ _ z=>False.elim z
end
section
variable {X:Cx} {st:Stmt} {rest:List Stmt} {t u:TS} {e:Expr} {te:TE} {pos:Pos}
def tNext:TS:=fun D σ H=>D.nx σ H
def tSeq (t u:TS):TS:=fun D σ H=>t { D with nx:=u D } σ H
theorem pss_nil:PSs X [] tNext:=fun _ _ σ H _ I h=>wpAny_execs_nil ⟨σ,H,I,h⟩
theorem zac (h1:PS X st t) (h2:PSs X rest u):PSs X (st::rest) (tSeq t u):=by
 intro pins s σ H D I h;refine wpAny_execs_cons (thn (h1 pins s σ H { D with nx:=u D } I h) fun f s1 q=>?_)
 cases f with
 | next =>
   obtain ⟨σ',H',I',q⟩:=q;exact h2 pins s1 σ' H' D I' q
 | ret v=>exact q
 | brk=>exact q
 | cont=>exact q
theorem zae (h1:PS X st t):PSs X [st] t:=by
 intro pins s σ H D I h;refine wpAny_execs_cons (thn (h1 pins s σ H D I h) fun f s1 q=>?_)
 cases f with
 | next=>exact wpAny_execs_nil q
 | ret v=>exact q
 | brk=>exact q
 | cont=>exact q
theorem Inv.quiet {pins:List (Addr×Obj)} {σ:St} {H:Hp} {s:Shared} (I:Inv X pins σ H s):interactive X.env=false:=by simp [interactive,I.ok.kind]
def zko (te:TE):TS:=fun D σ H=>te σ H fun _ H1=>D.nx σ H1
theorem zaz (he:PE X e te) (hs:swapsWith e none pos.line X.env=pure false:=by rfl):PS X (.Expr e pos) (zko te):=by
 intro pins s σ H D I h;exact wpAny_Expr_any (thn (he pins s σ H _ I h) fun v s1 ⟨x,H1,I1,r1,q1⟩=>⟨σ,H1,I1,q1⟩) I.quiet hs
def tRet (te:TE):TS:=fun D σ H=>te σ H D.rt
theorem zaj (he:PE X e te):PS X (.Return (some e) pos) (tRet te):=by
 intro pins s σ H D I h;exact wpAny_Return_some (thn (he pins s σ H _ I h) fun v s1 ⟨x,H1,I1,r1,q1⟩=>⟨x,σ,H1,I1,r1,q1⟩)
def tIfS (c:TT) (t u:TS):TS:=fun D σ H=>c σ H fun b H1=>if b=true then t D σ H1 else u D σ H1
theorem zaK {c:Expr} {a b:List Stmt} {tc:TT} (hc:PT X c tc) (ha:PSs X a t) (hb:PSs X b u):PS X (.If c a b pos) (tIfS tc t u):=by
 intro pins s σ H D I h;refine wpAny_If (thn (hc pins s σ H _ I h) fun d s1 ⟨H1,I1,q1⟩=>?_)
 cases d with
 | true=>exact ha pins s1 σ H1 D I1 q1
 | false=>exact hb pins s1 σ H1 D I1 q1
def tNever:TS:=fun _ _ _=>False
end
abbrev TG:=V→St→Hp→(St→Hp→Prop)→Prop
abbrev TGs:=List V→St→Hp→(St→Hp→Prop)→Prop
def PG (X:Cx) (target:Expr) (t:TG):Prop :=
 ∀ (pins:List (Addr×Obj)) (s:Shared) (σ:St) (H:Hp) (v:V) (u:Value) (Q:St→Hp→Prop),Inv X pins σ H s→RelV v u→t v σ H Q →
  wpAny (model X.prog X.w) X.A (assign target X.env u) (fun _ s'=>∃ σ' H',Inv X pins σ' H' s'∧Q σ' H') X.xe s
def PGs (X:Cx) (ts:List Expr) (t:TGs):Prop :=
 ∀ (pins:List (Addr×Obj)) (s:Shared) (σ:St) (H:Hp) (vs:List V) (us:List Value) (Q:St→Hp→Prop),Inv X pins σ H s→Vals vs us→t vs σ H Q →
  wpAny (model X.prog X.w) X.A (assignInOrder ((assignEach ts X.env).map (·.2)) us) (fun _ s'=>∃ σ' H',Inv X pins σ' H' s'∧Q σ' H') X.xe s
section
variable {X:Cx} {pos:Pos}
def zcj (i:Nat):TG:=fun v σ H Q=>Q (σ.set i (some v)) H
theorem zaA {i:Nat} {x:Str} (hN:X.N.Nodup) (hi:X.N[i]? = some x) (hx:Loc X.env.scope x) (hf:X.fn x=true∨X.env.scope.names.lookup x=some .local:=by first | exact .inl rfl | exact .inr rfl | assumption):PG X (.Name x pos) (zcj i):=by
 intro pins s σ H v u Q I r h;exact wpAny_assign_Name (zgd I hN hi hx r (fun s' I'=>⟨_,H,I',h⟩) hf)
def gNil:TGs:=fun vs σ H Q=>vs=[]∧Q σ H
def zg8 (t:TG) (u:TGs):TGs:=fun vs σ H Q=>∃ v r,vs=v::r∧t v σ H fun σ' H'=>u r σ' H' Q
theorem pgs_nil:PGs X [] gNil:=by
 intro pins s σ H vs us Q I r h;obtain ⟨e,h⟩:=h;subst e
 cases r
 exact assignInOrder_nil ⟨σ,H,I,h⟩
theorem zbG {e:Expr} {es:List Expr} {t:TG} {u:TGs} (h1:PG X e t) (h2:PGs X es u)
  (hs:(assignEach (e::es) X.env).map (·.2)=assign e X.env::(assignEach es X.env).map (·.2):=by rfl):PGs X (e::es) (zg8 t u):=by
 intro pins s σ H vs us Q I r h;obtain ⟨v,vr,e1,h⟩:=h;subst e1
 cases r with
 | cons r rr =>
   rw [hs];refine assignInOrder_cons (thn (h1 pins s σ H _ _ _ I r h) fun _ s1 ⟨σ1,H1,I1,q1⟩=>?_);exact h2 pins s1 σ1 H1 _ _ Q I1 rr q1
def gTup (K:PySem.W.Frag) (n:Nat) (t:TGs):TG:=fun v σ H Q=>∃ a xs,v=.ref a∧SqT K H a xs∧xs.length=n∧t xs σ H Q
theorem zkp {es:List Expr} {k:Nat} {t:TGs} {n:Nat} (hc:X.calm=true) (h:PGs X es t)
  (hn:(assignEach es X.env).length=n:=by rfl) (hst:(assignEach es X.env).findIdx? (·.1)=none:=by rfl):PG X (.Tuple es k pos) (gTup X.K n t):=by
 intro pins s σ H v u Q I r hw;obtain ⟨a,xs,e1,hq,hl,hw⟩:=hw;subst e1
 cases r
 obtain ⟨its,rv,ht,hz⟩:=I.tuple hq;refine assign_Tuple_tuple (I.ok.hd hc) ht (by simp [hn,← hl,rv.length]) hst fun h' hx=>?_;have I1:Inv X pins σ H { s with heap:=h' }:=I.kept (t':=s.toks) fun b o e=>hx b o (Nat.ne_of_lt (Heap.lt_size e)) e;exact h pins _ σ H xs _ Q I1 (by simpa using rv) hw
def tAsg (te:TE) (g:TG):TS:=fun D σ H=>te σ H fun x H1=>g x σ H1 D.nx
theorem zaF {i:Nat} {x:Str} {e:Expr} {te:TE} {pos':Pos} (hN:X.N.Nodup) (hi:X.N[i]? = some x) (hx:Loc X.env.scope x) (he:PE X e te) (hs:swapsWith e (some (.Name x pos')) pos.line X.env=pure false:=by rfl) (hf:X.fn x=true∨X.env.scope.names.lookup x=some .local:=by first | exact .inl rfl | exact .inr rfl | assumption) :
  PS X (.Assign [.Name x pos'] e pos) (tAsg te (zcj i)):=by
 intro pins s σ H D I h;refine wpAny_Assign_Name (thn (he pins s σ H _ I h) fun v s1 ⟨y,H1,I1,r1,q1⟩=>?_) hs;exact zgd I1 hN hi hx r1 (fun s2 I2=>⟨_,H1,I2,q1⟩) hf
end
section
variable {X:Cx} {pos:Pos}
def zkq (c:TT) (tb:TS):TS:=fun D σ H=>∃ W:Nat→St→Hp→Prop,(∃ m,W m σ H)∧∀ m σ H,W m σ H →
 c σ H fun b H1=>if b=true then ∃ N:St→Hp→Prop,(∀ σ' H',N σ' H'→∃ m',m' < m∧W m' σ' H')∧tb { D with nx:=N,ct:=N,bk:=D.nx } σ H1 else D.nx σ H1
theorem zge {c:Expr} {body:List Stmt} {tc:TT} {tb:TS} (hp:PassesOwn (model X.prog X.w) X.A X.env X.xe) (hc:PT X c tc) (hb:PSs X body tb):PS X (.While c body [] pos) (zkq tc tb):=by
 intro pins s σ H D I h;obtain ⟨W,⟨m0,w0⟩,turn⟩:=h;refine wpAny_While (codeAny_whileLoop (fun n s'=>∃ σ' H',Inv X pins σ' H' s'∧W n σ' H') ?_ m0 ⟨σ,H,I,w0⟩);rintro n s1 ⟨σ1,H1,I1,w1⟩;refine wpAny_passesOwn hp (thn (hc pins s1 σ1 H1 _ I1 (turn n σ1 H1 w1)) fun b s2 ⟨H2,I2,q2⟩=>?_)
 cases b with
 | true =>
   obtain ⟨N,hN,q2⟩:=q2;rw [if_pos rfl];refine wpAny_passesOwn hp (thn (hb pins s2 σ1 H2 _ I2 q2) fun f s3 q3=>?_)
   cases f with
   | next =>
     obtain ⟨σ3,H3,I3,n3⟩:=q3;obtain ⟨m',hm,w3⟩:=hN σ3 H3 n3;exact ⟨m',hm,σ3,H3,I3,w3⟩
   | cont =>
     obtain ⟨σ3,H3,I3,n3⟩:=q3;obtain ⟨m',hm,w3⟩:=hN σ3 H3 n3;exact ⟨m',hm,σ3,H3,I3,w3⟩
   | brk=>exact q3
   | ret v=>exact q3
 | false =>
   rw [if_neg Bool.false_ne_true];exact wpAny_execs_nil ⟨σ1,H2,I2,q2⟩
end
structure It where
 go:Nat→Hp→Prop
 yld:Nat→Hp→V→Hp→Prop
 stop:Nat→Hp→Prop
def FpOk (X:Cx) (pins:List (Addr×Obj)) (H:Hp) (b:Addr):Prop :=
 H b=none∧b≠X.env.locals∧b∉X.fs∧(b∈X.ex∨X.s₀.heap.objs.size≤b)∧(∀ x c,X.env.cells.lookup x=some c→c≠b)∧∀ p∈X.pn++pins,p.1≠b
theorem Inv.fpOk {X:Cx} {pins:List (Addr×Obj)} {σ:St} {H H':Hp} {s:Shared} {b:Addr} (I:Inv X pins σ H s) (hb:s.heap.objs.size≤b) (hn:H' b=none):FpOk X pins H' b:=by
 refine ⟨hn,Nat.ne_of_gt (Nat.lt_of_lt_of_le I.lt hb),I.nofs hb,.inr (Nat.le_trans I.sz hb),fun x c e z=>?_,fun p hp z=>?_⟩
 ·obtain ⟨v,q⟩:=I.cell x c e;exact absurd (Nat.lt_of_lt_of_le q.lt (by rw [z];exact hb)) (Nat.lt_irrefl _)
 ·exact absurd (Nat.lt_of_lt_of_le (Heap.lt_size (I.pin p hp).1) (by rw [z];exact hb)) (Nat.lt_irrefl _)
structure Turn (P:Program) (w:World) (K:PySem.W.Frag) (tg:Expr) (J:It) (fp:List Addr) (it:Addr) (tn:Nat→Heap→Prop):Prop where
 mem:it∈fp
 obj:∀ i h,tn i h→∀ b∈fp,∃ o,h.get? b=some o∧∀ v,o.data≠.cell v
 keep:∀ i h h',tn i h→(∀ b∈fp,∀ o,h.get? b=some o→h'.get? b=some o)→tn i h'
 item:∀ (X:Cx),X.prog=P→X.w=w→X.K=K→X.calm=true→∀ (i:Nat) (pins:List (Addr×Obj)) (s:Shared) (σ:St) (H:Hp) (E:Value→Shared→Prop),Inv X pins σ H s→(∀ b∈fp,FpOk X pins H b)→tn i s.heap→J.go i H →
  wpAny (model P w) X.A (pyNext (.ref it)) (fun r s1=>∃ u,r=some u ∧
   wpAny (model P w) X.A (letOwnedTupleGo tg (.ref it) u) (fun _ s2=>∃ x H',Inv X pins σ H' s2∧RelV x u∧J.yld i H x H'∧tn (i+1) s2.heap∧∀ b∈fp,H' b=none) E s1) E s
 done:∀ (X:Cx),X.prog=P→X.w=w→X.K=K→X.calm=true→∀ (i:Nat) (pins:List (Addr×Obj)) (s:Shared) (σ:St) (H:Hp) (E:Value→Shared→Prop),Inv X pins σ H s→(∀ b∈fp,FpOk X pins H b)→tn i s.heap→J.stop i H →
  wpAny (model P w) X.A (pyNext (.ref it)) (fun r s1=>r=none∧Inv X pins σ H s1) E s
 self:∀ (A:Around) (i:Nat) (s:Shared) (Q:Value→Shared→Prop) (E:Value→Shared→Prop),tn i s.heap→Q (.ref it) s→wpAny (model P w) A (pyIter (.ref it)) Q E s
abbrev TI:=St→Hp→(It→Hp→Prop)→Prop
def PIE (X:Cx) (pins:List (Addr×Obj)) (σ:St) (tg:Expr) (R:It→Hp→Prop) (itv:Value) (s2:Shared):Prop :=
 ∃ (it:Addr) (fp:List Addr) (tn:Nat→Heap→Prop) (J:It) (H':Hp),itv=.ref it∧Inv X pins σ H' s2∧Turn X.prog X.w X.K tg J fp it tn∧tn 0 s2.heap∧(∀ b∈fp,FpOk X pins H' b)∧R J H'
def PI (X:Cx) (tg iter:Expr) (wi:TI):Prop :=
 ∀ (pins:List (Addr×Obj)) (s:Shared) (σ:St) (H:Hp) (R:It→Hp→Prop),Inv X pins σ H s→wi σ H R →
  wpAny (model X.prog X.w) X.A (eval iter X.env) (fun v s1=>wpAny (model X.prog X.w) X.A (pyIter v) (PIE X pins σ tg R) X.xe s1) X.xe s
theorem zkr {M:Model} {A:Around} {E:Value→Shared→Prop} {s:Shared} {tg:Expr} {it:Addr} {u:Value} {o:Obj} {n:String} {vs:Array Value} {Q:Unit→Shared→Prop} (ho:s.heap.get? it=some o) (hc:o.cls=.type n) (hd:o.data=.fields vs)
  (hn:["enumerate","zip","dict_itemiterator","dict_reverseitemiterator","odict_iterator","itertools.zip_longest","itertools.pairwise"].contains n=false) (hQ:Q () s):wpAny M A (letOwnedTupleGo tg (.ref it) u) Q E s:=by
 unfold letOwnedTupleGo
 cases tg <;> first
  | exact wpAny_pure hQ
  | (cases u <;> first
     | exact wpAny_pure hQ
     | (refine wpAny_bind (wpAny_load ho ?_)
        rw [hc,hd];show wpAny M A (if (["enumerate","zip","dict_itemiterator","dict_reverseitemiterator","odict_iterator","itertools.zip_longest","itertools.pairwise"].contains n && vs[0]? == some (rawInt _))=true then _ else _) Q E s;rw [if_neg (by intro h;rw [hn,Bool.false_and] at h;cases h)];exact wpAny_pure hQ))
def Itl (K:PySem.W.Frag) (a:Addr):It :=
 ⟨fun i H=>∃ xs x,SqL K H a xs∧xs[i]? = some x,fun i H x H'=>H'=H∧∀ xs,SqL K H a xs→xs[i]? = some x,fun i H=>∃ xs,SqL K H a xs∧xs.length≤i⟩
def Itr (lo:Int) (n:Nat):It:=⟨fun i _=>i < n,fun i H x H'=>H'=H∧x=.int (lo+i),fun i _=>n≤i⟩
theorem zg9 {P:Program} {w:World} {K:PySem.W.Frag} {tg:Expr} (a it:Addr):Turn P w K tg (Itl K a) [it] it (fun i h=>h.IsListIter it a i) where
 mem:=by simp
 obj:=fun i h st b hb=>by
  have e:b=it:=by simpa using hb
  subst e;obtain ⟨o,e,c,d⟩:=st;exact ⟨o,e,fun v z=>by rw [d] at z;cases z⟩
 keep:=fun i h h' st k=>st.at fun o e=>k it (by simp) o e
 item:=by
  intro X hP hw hK hc i pins s σ H E I hf st hg;subst hP hw hK;obtain ⟨xs,x,hq,hx⟩:=hg;obtain ⟨its,rv,p,hz⟩:=I.list hq;obtain ⟨u,hu,ru⟩:=rv.get hx;obtain ⟨f0,f1,f2,f3,f4,f5⟩:=hf it (by simp);refine wpAny_pyNext_list_item st p.isList (x:=u) (by simpa using hu) fun h' st' sb=>?_;have I1:Inv X pins σ H { s with heap:=h' }:=I.turned (t':=s.toks) (fun b o hb e=>(sb.2 b hb).trans e) f0 f1 f3 f4 f5;obtain ⟨o,e,c,d⟩:=id st';exact ⟨u,rfl,zkr (s:={ s with heap:=h' }) e c d (by decide) ⟨x,H,I1,ru,⟨rfl,fun ys hy=>by rw [I.list_inj hy hq];exact hx⟩,st',fun b hb=>(hf b hb).1⟩⟩
 done:=by
  intro X hP hw hK hc i pins s σ H E I hf st hg;subst hP hw hK;obtain ⟨xs,hq,hx⟩:=hg;obtain ⟨its,rv,p,hz⟩:=I.list hq;obtain ⟨f0,f1,f2,f3,f4,f5⟩:=hf it (by simp);have hl:=rv.length;exact wpAny_pyNext_list_end (I.ok.hd hc) st p.isList (by simp;omega) fun h' eb=>⟨rfl,I.turned (t':=s.toks) (fun b o hb e=>eb b o hb e) f0 f1 f3 f4 f5⟩
 self:=fun _ _ _ _ _ st h=>wpAny_pyIter_listiter st h
theorem zgu {P:Program} {w:World} {K:PySem.W.Frag} {tg:Expr} (it:Addr) (lo:Int) (n:Nat):Turn P w K tg (Itr lo n) [it] it (fun i h=>IsRangeIter h it (lo+(i:Nat) * 1) ((n:Int)-(i:Nat)) 1) where
 mem:=by simp
 obj:=fun i h st b hb=>by
  have e:b=it:=by simpa using hb
  subst e;exact ⟨_,st,fun v z=>by
   have z':Data.fields _=Data.cell v:=z
   cases z'⟩
 keep:=fun i h h' st k=>k it (by simp) _ st
 item:=by
  intro X hP hw hK hc i pins s σ H E I hf st hg;subst hP hw hK;obtain ⟨f0,f1,f2,f3,f4,f5⟩:=hf it (by simp);have W:=Walks.range (prog:=X.prog) (w:=X.w) (I.ok.hd hc) it lo 1 n;refine W.item i s _ _ hg st fun v h' tk hv st' kk=>?_;obtain ⟨t,rfl⟩:=hv;have I1:Inv X pins σ H { s with heap:=h',toks:=tk }:=I.turned (fun b o hb e=>kk b o (by simpa using hb) e) f0 f1 f3 f4 f5;refine ⟨_,rfl,zkr (s:={ s with heap:=h',toks:=tk }) (n:="range_iterator") st' rfl rfl (by decide) ⟨.int (lo+i),H,I1,⟨t,?_⟩,⟨rfl,rfl⟩,st',fun b hb=>(hf b hb).1⟩⟩;rw [Int.mul_one]
 done:=by
  intro X hP hw hK hc i pins s σ H E I hf st hg;subst hP hw hK;obtain ⟨f0,f1,f2,f3,f4,f5⟩:=hf it (by simp);exact wpAny_pyNext_range_end (I.ok.hd hc) st (by have:n≤i:=hg;omega) fun h' eb=>⟨rfl,I.turned (t':=s.toks) (fun b o hb e=>eb b o hb e) f0 f1 f3 f4 f5⟩
 self:=fun _ _ _ _ _ st h=>wpAny_pyIter_rangeiter st h
end L2
namespace L2
open PySem PySem.Spec PyProof.Rows
section
variable {X:Cx} {tg:Expr}
def zir (K:PySem.W.Frag) (tl:TE):TI:=fun σ H R=>tl σ H fun x H1=>∃ a,x=.ref a∧(∃ xs,SqL K H1 a xs)∧R (Itl K a) H1
theorem zjt {l:Expr} {tl:TE} (hl:PE X l tl):PI X tg l (zir X.K tl):=by
 intro pins s σ H R I h;refine thn (hl pins s σ H _ I h) fun v s1 ⟨x,H1,I1,r1,q1⟩=>?_;obtain ⟨a,e,⟨xs,hq⟩,q⟩:=q1;subst e
 cases r1
 obtain ⟨its,rv,p,hz⟩:=I1.list hq;refine wpAny_pyIter_list p.isList ?_;refine ⟨s1.heap.objs.size,[s1.heap.objs.size],_,_,H1,rfl,I1.kept (t':=s1.toks) fun b o e=>Heap.get?_push_of_some _ e,zg9 a _,⟨_,Heap.get?_push_size _ rfl,rfl,rfl⟩,fun b hb=>?_,q⟩;have e:b=s1.heap.objs.size:=by simpa using hb
 subst e;exact I1.fpOk (Nat.le_refl _) (I1.hok.fresh (Nat.le_refl _))
theorem zgf {pins:List (Addr×Obj)} {σ:St} {H:Hp} {s:Shared} {R:It→Hp→Prop} {E:Value→Shared→Prop} {lo hi:Int} {t u v:Tok} {tk:Nat} (I:Inv X pins σ H s) (h1 : -(2 ^ 62)≤lo) (h2:lo < 2 ^ 62) (h3 : -(2 ^ 62)≤hi) (h4:hi < 2 ^ 62)
  (q:R (Itr lo (hi-lo).toNat) H):wpAny (model X.prog X.w) X.A (pyIter (.ref s.heap.objs.size)) (PIE X pins σ tg R) E { s with heap:=s.heap.push { cls:=.type "range",data:=.fields #[.int lo t,.int hi u,.int 1 v] },toks:=tk }:=by
 refine wpAny_pyIter_range (IsRange.new ..) (small_one h1 h2 h3 h4) ?_;have I1:Inv X pins σ H { s with heap:=s.heap.push { cls:=.type "range",data:=.fields #[.int lo t,.int hi u,.int 1 v] },toks:=tk }:=I.kept fun b o e=>Heap.get?_push_of_some _ e;refine ⟨(s.heap.push { cls:=.type "range",data:=.fields #[.int lo t,.int hi u,.int 1 v] }).objs.size,[(s.heap.push { cls:=.type "range",data:=.fields #[.int lo t,.int hi u,.int 1 v] }).objs.size],_,_,H,rfl,
  I1.kept (t':=tk) fun b o e=>Heap.get?_push_of_some _ e,zgu _ lo (hi-lo).toNat,?_,fun b hb=>?_,q⟩
 ·have e1:lo+((0:Nat):Int) * 1=lo:=by simp
  have e2:(((hi-lo).toNat:Nat):Int)-((0:Nat):Int)=Builtin.Range.rangeSize lo hi 1:=by rw [rangeSize_one];split <;> omega
  show IsRangeIter _ _ (lo+((0:Nat):Int) * 1) ((((hi-lo).toNat:Nat):Int)-((0:Nat):Int)) 1;rw [e1,e2];exact Heap.get?_push_size _ rfl
 ·have e:b=(s.heap.push { cls:=.type "range",data:=.fields #[.int lo t,.int hi u,.int 1 v] }).objs.size:=by simpa using hb
  subst e;exact I1.fpOk (Nat.le_refl _) (I1.hok.fresh (Nat.le_refl _))
def zju (ta:TA):TI:=fun σ H R=>ta σ H fun vs H1=>∃ j:Int,vs=[.int j]∧-(2 ^ 62)≤j∧j < 2 ^ 62∧R (Itr 0 j.toNat) H1
def zjv (ta:TA):TI:=fun σ H R=>ta σ H fun vs H1=>∃ i j:Int,vs=[.int i,.int j]∧(-(2 ^ 62)≤i∧i < 2 ^ 62∧-(2 ^ 62)≤j∧j < 2 ^ 62)∧R (Itr i (j-i).toNat) H1
theorem zb5 {a:Expr} {ta:TA} {p pos:Pos} (hg:Gl X "range") (hm:X.mg "range" = none) (ha:PA X [a] ta) (hs:starEach [a] X.env=[(false,eval a X.env)]:=by rfl):PI X tg (.Call (.Name "range" p) [a] [] pos) (zju ta):=by
 intro pins s σ H R I h;refine Call_ (zc8 I hg hm boot_range (PyProof.Rows.callWith_type1 (thn (ha pos pins s σ H _ I h) fun us s1 ⟨vs,H1,I1,r1,q1⟩=>?_) hs rfl));obtain ⟨j,e,q1,q2,q⟩:=q1;subst e
 cases r1 with
 | cons r rr =>
   cases rr
   obtain ⟨t,rfl⟩:=r;exact call_range_1 (zgf I1 (by omega) (by omega) q1 q2 (by simpa using q))
theorem zb6 {a b:Expr} {ta:TA} {p pos:Pos} (hg:Gl X "range") (hm:X.mg "range" = none) (ha:PA X [a,b] ta) (hs:starEach [a,b] X.env=[(false,eval a X.env),(false,eval b X.env)]:=by rfl) (hs2:starEach [b] X.env=[(false,eval b X.env)]:=by rfl) :
  PI X tg (.Call (.Name "range" p) [a,b] [] pos) (zjv ta):=by
 intro pins s σ H R I h;refine Call_ (zc8 I hg hm boot_range (PyProof.Rows.callWith_type1 (thn (ha pos pins s σ H _ I h) fun us s1 ⟨vs,H1,I1,r1,q1⟩=>?_) (by rw [hs,hs2]) (by rw [hs2];rfl)));obtain ⟨i,j,e,⟨q1,q2,q3,q4⟩,q⟩:=q1;subst e
 cases r1 with
 | cons r rr =>
   cases rr with
   | cons r' rr =>
     cases rr
     obtain ⟨t,rfl⟩:=r;obtain ⟨t',rfl⟩:=r';exact call_range_2 (zgf I1 q1 q2 q3 q4 q)
def tFor (wi:TI) (g:TG) (tb:TS):TS:=fun D σ H=>wi σ H fun J H1=>∃ W:Nat→Nat→St→Hp→Prop,(∃ m,W 0 m σ H1)∧∀ i m σ H,W i m σ H →
 (J.stop i H∧D.nx σ H)∨(J.go i H∧∃ N:St→Hp→Prop,(∀ σ' H',N σ' H'→∃ m',m' < m∧W (i+1) m' σ' H')∧∀ x H',J.yld i H x H'→g x σ H' fun σ2 H2=>tb { D with nx:=N,ct:=N,bk:=D.nx } σ2 H2)
def zeX (fp:List Addr) (h:Heap):List (Addr×Obj):=fp.filterMap fun b=>(h.get? b).map fun o=>(b,o)
theorem zce {fp:List Addr} {h:Heap} {b:Addr} {o:Obj} (hb:b∈fp) (e:h.get? b=some o):(b,o)∈zeX fp h:=List.mem_filterMap.mpr ⟨b,hb,by rw [e];rfl⟩
theorem zha {fp:List Addr} {h:Heap} {p:Addr×Obj} (hp:p∈zeX fp h):p.1∈fp∧h.get? p.1=some p.2:=by
 obtain ⟨b,hb,e⟩:=List.mem_filterMap.mp hp
 cases q:h.get? b with
 | none=>rw [q] at e;cases e
 | some o =>
   rw [q] at e;have e':(b,o)=p:=Option.some.inj e;subst e';exact ⟨hb,q⟩
theorem Inv.pinned {pins:List (Addr×Obj)} {σ:St} {H:Hp} {s:Shared} {fp:List Addr} (I:Inv X pins σ H s) (hf:∀ b∈fp,FpOk X pins H b) (ho:∀ b∈fp,∃ o,s.heap.get? b=some o∧∀ v,o.data≠.cell v):Inv X (pins++zeX fp s.heap) σ H s :=
 I.pins_of fun p hp=>(List.mem_append.mp hp).elim (fun z=>I.pin p (List.mem_append_right _ z)) fun z=>by
  obtain ⟨hb,e⟩:=zha z;obtain ⟨f0,f1,f2,_⟩:=hf p.1 hb;obtain ⟨o,e',d⟩:=ho p.1 hb;rw [e] at e';cases e'
  exact ⟨e,f0,f1,f2,d⟩
theorem Inv.unpinned {pins pl:List (Addr×Obj)} {σ:St} {H:Hp} {s:Shared} (I:Inv X (pins++pl) σ H s):Inv X pins σ H s:=I.pins_of fun p hp=>I.pin p (List.mem_append_right _ (List.mem_append_left _ hp))
theorem zb7 {iter:Expr} {body:List Stmt} {wi:TI} {g:TG} {tb:TS} {pos:Pos} (hp:PassesOwn (model X.prog X.w) X.A X.env X.xe) (hc:X.calm=true) (hi:PI X tg iter wi) (hg:PG X tg g) (hb:PSs X body tb)
  (hs:∀ x,foldedSetIterable iter X.env x=pure x:=by intro _;rfl):PS X (.For tg iter body [] pos) (tFor wi g tb):=by
 intro pins s σ H D I h;refine wpAny_For (thn (hi pins s σ H _ I h) fun v s1 h1=>thn h1 fun itv s2 h2=>?_) hs;obtain ⟨it,fp,tn,J,H2,e,I2,T,st2,f2,W,⟨m0,w0⟩,turn⟩:=h2;subst e;have stat:∀ {H':Hp},(∀ b∈fp,H' b=none)→∀ b∈fp,FpOk X pins H' b:=fun hn b hb=>⟨hn b hb,(f2 b hb).2⟩
 refine codeAny_forLoop_any (fun n s'=>∃ i σ' H',Inv X pins σ' H' s'∧tn i s'.heap∧(∀ b∈fp,H' b=none)∧W i n σ' H') ?_ m0 ⟨0,σ,H2,I2,st2,fun b hb=>(f2 b hb).1,w0⟩;rintro n s3 ⟨i,σ3,H3,I3,st3,fr3,w3⟩;rcases turn i n σ3 H3 w3 with ⟨stop,qn⟩ | ⟨go,N,hN,step⟩
 ·refine wpAny_passesOwn hp (thn (T.done X rfl rfl rfl hc i pins s3 σ3 H3 X.xe I3 (stat fr3) st3 stop) fun r s4 ⟨hr,I4⟩=>?_);subst hr;exact wpAny_execs_nil ⟨σ3,H3,I4,qn⟩
 ·refine wpAny_passesOwn hp (thn (T.item X rfl rfl rfl hc i pins s3 σ3 H3 X.xe I3 (stat fr3) st3 go) fun r s4 ⟨u,hr,h4⟩=>?_);subst hr;refine wpAny_passesOwn hp (thn h4 fun _ s5 ⟨x,H5,I5,r5,y5,st5,fr5⟩=>?_);have I5':=I5.pinned (stat fr5) (T.obj _ _ st5);refine wpAny_passesOwn hp (thn (hg _ s5 σ3 H5 x u _ I5' r5 (step x H5 y5)) fun _ s6 ⟨σ6,H6,I6,q6⟩=>?_);refine wpAny_passesOwn hp (thn (hb _ s6 σ6 H6 _ I6 q6) fun f s7 q7=>?_);have again:∀ {σ7:St} {H7:Hp},Inv X (pins++zeX fp s5.heap) σ7 H7 s7→N σ7 H7→∃ m,m < n∧∃ i σ' H',Inv X pins σ' H' s7∧tn i s7.heap∧(∀ b∈fp,H' b=none)∧W i m σ' H':=fun {σ7 H7} I7 n7=>by
   obtain ⟨m',hm,w7⟩:=hN σ7 H7 n7;refine ⟨m',hm,i+1,σ7,H7,I7.unpinned,T.keep _ _ _ st5 fun b hb o e=>(I7.pin (b,o) (List.mem_append_right _ (List.mem_append_right _ (zce hb e)))).1,fun b hb=>?_,w7⟩;obtain ⟨o,e,d⟩:=T.obj _ _ st5 b hb;exact (I7.pin (b,o) (List.mem_append_right _ (List.mem_append_right _ (zce hb e)))).2.1
  cases f with
  | next=>obtain ⟨σ7,H7,I7,n7⟩:=q7;exact again I7 n7
  | cont=>obtain ⟨σ7,H7,I7,n7⟩:=q7;exact again I7 n7
  | brk=>obtain ⟨σ7,H7,I7,q7⟩:=q7;exact ⟨σ7,H7,I7.unpinned,q7⟩
  | ret v=>obtain ⟨x7,σ7,H7,I7,r7,q7⟩:=q7;exact ⟨x7,σ7,H7,I7.unpinned,r7,q7⟩
end
theorem zis {K:PySem.W.Frag} {a:Addr} {xs:List V} {g:TG} {tb:TS} {D:Ends} {σ:St} {H:Hp} (Pv:Nat→St→Hp→Prop) (h0:Pv 0 σ H) (hl:∀ i σ H,i≤xs.length→Pv i σ H→SqL K H a xs)
  (hs:∀ i x σ H,xs[i]? = some x→Pv i σ H→g x σ H fun σ2 H2=>tb { D with nx:=Pv (i+1),ct:=Pv (i+1),bk:=D.nx } σ2 H2) (hd:∀ σ H,Pv xs.length σ H→D.nx σ H) :
  ∃ W:Nat→Nat→St→Hp→Prop,(∃ m,W 0 m σ H)∧∀ i m σ H,W i m σ H →
   ((Itl K a).stop i H∧D.nx σ H)∨((Itl K a).go i H∧∃ N:St→Hp→Prop,(∀ σ' H',N σ' H'→∃ m',m' < m∧W (i+1) m' σ' H')∧∀ x H',(Itl K a).yld i H x H'→g x σ H' fun σ2 H2=>tb { D with nx:=N,ct:=N,bk:=D.nx } σ2 H2):=by
 refine ⟨fun i m σ H=>m=xs.length-i∧i≤xs.length∧Pv i σ H,⟨xs.length,by simp,Nat.zero_le _,h0⟩,?_⟩;rintro i m σ H ⟨rfl,hi,p⟩;have q:=hl i σ H hi p
 by_cases hlt:i < xs.length
 ·refine .inr ⟨⟨xs,xs[i],q,by simp [hlt]⟩,Pv (i+1),fun σ' H' p'=>⟨xs.length-(i+1),by omega,rfl,hlt,p'⟩,fun x H' y=>?_⟩;obtain ⟨e,y⟩:=y;subst e;exact hs i x σ _ (y xs q) p
 ·have e:i=xs.length:=by omega
  subst e;exact .inl ⟨⟨xs,q,Nat.le_refl _⟩,hd σ H p⟩
theorem zhb {lo:Int} {n:Nat} {g:TG} {tb:TS} {D:Ends} {σ:St} {H:Hp} (Pv:Nat→St→Hp→Prop) (h0:Pv 0 σ H)
  (hs:∀ i σ H,i < n→Pv i σ H→g (.int (lo+i)) σ H fun σ2 H2=>tb { D with nx:=Pv (i+1),ct:=Pv (i+1),bk:=D.nx } σ2 H2) (hd:∀ σ H,Pv n σ H→D.nx σ H) :
  ∃ W:Nat→Nat→St→Hp→Prop,(∃ m,W 0 m σ H)∧∀ i m σ H,W i m σ H →
   ((Itr lo n).stop i H∧D.nx σ H)∨((Itr lo n).go i H∧∃ N:St→Hp→Prop,(∀ σ' H',N σ' H'→∃ m',m' < m∧W (i+1) m' σ' H')∧∀ x H',(Itr lo n).yld i H x H'→g x σ H' fun σ2 H2=>tb { D with nx:=N,ct:=N,bk:=D.nx } σ2 H2):=by
 refine ⟨fun i m σ H=>m=n-i∧i≤n∧Pv i σ H,⟨n,by simp,Nat.zero_le _,h0⟩,?_⟩;rintro i m σ H ⟨rfl,hi,p⟩
 by_cases hlt:i < n
 ·refine .inr ⟨hlt,Pv (i+1),fun σ' H' p'=>⟨n-(i+1),by omega,rfl,hlt,p'⟩,fun x H' y=>?_⟩;obtain ⟨e,y⟩:=y;subst e y;exact hs i σ _ hlt p
 ·have e:i=n:=by omega
  subst e;exact .inl ⟨Nat.le_refl _,hd σ H p⟩
end L2
namespace L2
open PySem PySem.Spec PyProof.Rows
abbrev R2:=V→V→Hp→VK→Prop
def OpR (X:Cx) (f:Value→Value→Sem Value) (r:R2):Prop :=
 ∀ (pins:List (Addr×Obj)) (s:Shared) (σ:St) (H:Hp) (x y:V) (v u:Value) (Q:VK),Inv X pins σ H s→RelV x v→RelV y u→r x y H Q →
  wpAny (model X.prog X.w) X.A (f v u) (EP X pins σ Q) X.xe s
def zck (X:Cx) (f:Value) (r:List V→Hp→VK→Prop):Prop :=
 ∀ (pins:List (Addr×Obj)) (s:Shared) (σ:St) (H:Hp) (xs:List V) (us:List Value) (Q:VK),Inv X pins σ H s→Vals xs us→r xs H Q →
  wpAny (model X.prog X.w) X.A (call f us) (EP X pins σ Q) X.xe s
def TruR (X:Cx) (r:V→Hp→(Bool→Hp→Prop)→Prop):Prop :=
 ∀ (pins:List (Addr×Obj)) (s:Shared) (σ:St) (H:Hp) (x:V) (v:Value) (Q:Bool→Hp→Prop),Inv X pins σ H s→RelV x v→r x H Q →
  wpAny (model X.prog X.w) X.A (truthy v) (TP X pins σ Q) X.xe s
def tOp (r:R2) (ta tb:TE):TE:=fun σ H Q=>ta σ H fun x H1=>tb σ H1 fun y H2=>r x y H2 Q
def rI (C:Int→Int→Prop) (g:Int→Int→V):R2:=fun x y H Q=>∃ i j,x=.int i∧y=.int j∧C i j∧Q (g i j) H
def rI0 (g:Int→Int→V):R2:=fun x y H Q=>∃ i j,x=.int i∧y=.int j∧Q (g i j) H
section
variable {X:Cx} {a b c:Expr} {ta tb tc:TE} {pos:Pos}
theorem binT (ha:PE X a ta) (hb:PE X b tb) {pins:List (Addr×Obj)} {s:Shared} {σ:St} {H:Hp} {R:V→V→Hp→Prop} (I:Inv X pins σ H s)
  (h:ta σ H fun x H1=>tb σ H1 fun y H2=>R x y H2) {Q:Value→Shared→Prop} {f:Value→Value→Sem Value}
  (hf:∀ v u s2 x y H2,Inv X pins σ H2 s2→RelV x v→RelV y u→R x y H2→wpAny (model X.prog X.w) X.A (f v u) Q X.xe s2) :
  wpAny (model X.prog X.w) X.A (eval a X.env) (fun v s₁=>wpAny (model X.prog X.w) X.A (eval b X.env) (fun u s₂=>wpAny (model X.prog X.w) X.A (f v u) Q X.xe s₂) X.xe s₁) X.xe s:=by
 refine thn (ha pins s σ H _ I h) fun v s1 ⟨x,H1,I1,r1,q1⟩=>?_;refine thn (hb pins s1 σ H1 _ I1 q1) fun u s2 ⟨y,H2,I2,r2,q2⟩=>?_;exact hf v u s2 x y H2 I2 r1 r2 q2
theorem zav {op:Operator} {r:R2} (ho:OpR X (binaryOp op) r) (ha:PE X a ta) (hb:PE X b tb):PE X (.BinOp a op b pos) (tOp r ta tb):=by
 intro pins s σ H Q I h;exact wpAny_BinOp (binT ha hb I h fun v u s2 x y H2 I2 rx ry q=>ho pins s2 σ H2 x y v u Q I2 rx ry q)
theorem opI {f:Value→Value→Sem Value} {C:Int→Int→Prop} {g:Int→Int→Int}
  (rule:∀ (i j:Int) (t u:Tok) (s:Shared) (Q:Value→Shared→Prop) (E:Value→Shared→Prop),C i j→Q (.int (g i j) s.toks) { s with toks:=s.toks+1 }→wpAny (model X.prog X.w) X.A (f (.int i t) (.int j u)) Q E s) :
  OpR X f (rI C fun i j=>.int (g i j)):=by
 intro pins s σ H x y v u Q I rx ry h;obtain ⟨i,j,rfl,rfl,hc,q⟩:=h;obtain ⟨t,rfl⟩:=rx;obtain ⟨t',rfl⟩:=ry;exact rule i j t t' s _ _ hc ⟨.int (g i j),H,I.tok _,⟨_,rfl⟩,q⟩
theorem opI0 {f:Value→Value→Sem Value} {g:Int→Int→Int}
  (rule:∀ (i j:Int) (t u:Tok) (s:Shared) (Q:Value→Shared→Prop) (E:Value→Shared→Prop),Q (.int (g i j) s.toks) { s with toks:=s.toks+1 }→wpAny (model X.prog X.w) X.A (f (.int i t) (.int j u)) Q E s) :
  OpR X f (rI0 fun i j=>.int (g i j)):=by
 intro pins s σ H x y v u Q I rx ry h;obtain ⟨i,j,rfl,rfl,q⟩:=h;obtain ⟨t,rfl⟩:=rx;obtain ⟨t',rfl⟩:=ry;exact rule i j t t' s _ _ ⟨.int (g i j),H,I.tok _,⟨_,rfl⟩,q⟩
theorem opB0 {f:Value→Value→Sem Value} {g:Int→Int→Bool}
  (rule:∀ (i j:Int) (t u:Tok) (s:Shared) (Q:Value→Shared→Prop) (E:Value→Shared→Prop),Q (.bool (g i j)) s→wpAny (model X.prog X.w) X.A (f (.int i t) (.int j u)) Q E s) :
  OpR X f (rI0 fun i j=>.bl (g i j)):=by
 intro pins s σ H x y v u Q I rx ry h;obtain ⟨i,j,rfl,rfl,q⟩:=h;obtain ⟨t,rfl⟩:=rx;obtain ⟨t',rfl⟩:=ry;exact rule i j t t' s _ _ ⟨.bl (g i j),H,I,rfl,q⟩
def CPow (i j:Int):Prop:=0≤j∧j≤1000000∧i.natAbs < 2 ^ 64
def CMul (i j:Int):Prop:=(-(2 ^ 64) < i∧i < 2 ^ 64)∨(-(2 ^ 64) < j∧j < 2 ^ 64)
theorem CMul.ok {i j:Int} (h:CMul i j):IntMulOk i j:=by
 rcases h with ⟨h1,h2⟩ | ⟨h1,h2⟩
 ·exact .of_left (intBits_le_64 h1 h2)
 ·exact .of_right (intBits_le_64 h1 h2)
theorem op_add:OpR X (binaryOp .Add) (rI0 fun i j=>.int (i+j)):=opI0 fun _ _ _ _ _ _ _ q=>add_int q
theorem op_sub:OpR X (binaryOp .Sub) (rI0 fun i j=>.int (i-j)):=opI0 fun _ _ _ _ _ _ _ q=>sub_int q
theorem op_mod:OpR X (binaryOp .Mod) (rI (fun _ j=>0 < j) fun i j=>.int (i % j)):=opI fun i j _ _ _ _ _ hc q=>by
 have h1:(0:Int) < j:=hc;exact mod_int' (by omega) (by rw [Int.fmod_eq_emod_of_nonneg i (by omega)];exact q)
theorem op_pow:OpR X (binaryOp .Pow) (rI CPow fun i j=>.int (i ^ j.toNat)):=opI fun _ _ _ _ _ _ _ hc q=>pow_int_small hc.1 hc.2.1 hc.2.2 q
end
def scal:V→V→Bool
 | .non,.non=>true | .non,.int _=>true | .int _,.non=>true | .non,.bl _=>true | .bl _,.non=>true | .non,.str _=>true | .str _,.non=>true
 | .int _,.int _=>true | .bl _,.bl _=>true | .str _,.str _=>true | .byt _,.byt _=>true
 | .int _,.str _=>true | .str _,.int _=>true | .bl _,.str _=>true | .str _,.bl _=>true
 | _,_=>false
def rEq:R2:=fun x y H Q=>scal x y=true∧Q (.bl (decide (x=y))) H
def rNe:R2:=fun x y H Q=>scal x y=true∧Q (.bl (!decide (x=y))) H
theorem zhc {i j:Int}:decide (V.int i=V.int j)=(i == j):=by
 rw [Bool.eq_iff_iff];simp
theorem zja {i j:Bool}:decide (V.bl i=V.bl j)=(i == j):=by
 rw [Bool.eq_iff_iff];simp
theorem zhd {i j:Str}:decide (V.str i=V.str j)=(i == j):=by
 rw [Bool.eq_iff_iff];simp
theorem zhe {i j:Array UInt8}:decide (V.byt i=V.byt j)=(i.toList == j.toList):=by
 rw [Bool.eq_iff_iff]
 cases i
 cases j
 simp
section
variable {X:Cx} {a b c:Expr} {ta tb tc:TE} {pos:Pos}
theorem zaO {pins:List (Addr×Obj)} {σ:St} {H:Hp} {s:Shared} {Q:VK} {k k':Bool} (I:Inv X pins σ H s) (q:Q (.bl k) H) (e:k=k'):EP X pins σ Q (.bool k') s:=by
 subst e;exact ⟨.bl k,H,I,rfl,q⟩
theorem op_eq:OpR X (compareOp .Eq) rEq:=by
 intro pins s σ H x y v u Q I rx ry h;obtain ⟨hs,q⟩:=h
 cases x with
 | non =>
   cases rx
   cases y with
   | non=>cases ry;exact PySem.EqNone.eq_none_none (zaO I q (by simp))
   | bl j=>cases ry;exact PySem.EqNone.eq_none_bool (zaO I q (by simp))
   | int j=>obtain ⟨t',rfl⟩:=ry;exact PySem.EqNone.eq_none_int (zaO I q (by simp))
   | str j=>obtain ⟨t',rfl⟩:=ry;exact PySem.EqNone.eq_none_str (zaO I q (by simp))
   | _=>exact absurd (show false=true from hs) Bool.false_ne_true
 | bl i =>
   cases rx
   cases y with
   | non=>cases ry;exact PySem.EqNone.eq_bool_none (zaO I q (by simp))
   | bl j=>cases ry;exact eq_bool (zaO I q zja)
   | str j=>obtain ⟨t',rfl⟩:=ry;exact PySem.EqMixed.eq_bool_str (zaO I q (by simp))
   | _=>exact absurd (show false=true from hs) Bool.false_ne_true
 | int i =>
   obtain ⟨t,rfl⟩:=rx
   cases y with
   | non=>cases ry;exact PySem.EqNone.eq_int_none (zaO I q (by simp))
   | int j=>obtain ⟨t',rfl⟩:=ry;exact eq_int (zaO I q zhc)
   | str j=>obtain ⟨t',rfl⟩:=ry;exact PySem.EqMixed.eq_int_str (zaO I q (by simp))
   | _=>exact absurd (show false=true from hs) Bool.false_ne_true
 | str i =>
   obtain ⟨t,rfl⟩:=rx
   cases y with
   | non=>cases ry;exact PySem.EqNone.eq_str_none (zaO I q (by simp))
   | bl j=>cases ry;exact PySem.EqMixed.eq_str_bool (zaO I q (by simp))
   | int j=>obtain ⟨t',rfl⟩:=ry;exact PySem.EqMixed.eq_str_int (zaO I q (by simp))
   | str j=>obtain ⟨t',rfl⟩:=ry;exact eq_str (zaO I q zhd)
   | _=>exact absurd (show false=true from hs) Bool.false_ne_true
 | byt i =>
   obtain ⟨t,rfl⟩:=rx
   cases y with
   | byt j=>obtain ⟨t',rfl⟩:=ry;exact PySem.W.eq_bytes (zaO I q zhe)
   | _=>exact absurd (show false=true from hs) Bool.false_ne_true
 | _=>cases y <;> exact absurd (show false=true from hs) Bool.false_ne_true
theorem op_ne:OpR X (compareOp .NotEq) rNe:=by
 intro pins s σ H x y v u Q I rx ry h;obtain ⟨hs,q⟩:=h
 cases x with
 | non =>
   cases rx
   cases y with
   | non=>cases ry;exact PySem.EqNone.ne_none_none (zaO I q (by simp))
   | bl j=>cases ry;exact PySem.EqNone.ne_none_bool (zaO I q (by simp))
   | int j=>obtain ⟨t',rfl⟩:=ry;exact PySem.EqNone.ne_none_int (zaO I q (by simp))
   | str j=>obtain ⟨t',rfl⟩:=ry;exact PySem.EqNone.ne_none_str (zaO I q (by simp))
   | _=>exact absurd (show false=true from hs) Bool.false_ne_true
 | bl i =>
   cases rx
   cases y with
   | non=>cases ry;exact PySem.EqNone.ne_bool_none (zaO I q (by simp))
   | bl j=>cases ry;exact ne_bool (zaO I q (congrArg not zja))
   | str j=>obtain ⟨t',rfl⟩:=ry;exact PySem.EqMixed.ne_bool_str (zaO I q (by simp))
   | _=>exact absurd (show false=true from hs) Bool.false_ne_true
 | int i =>
   obtain ⟨t,rfl⟩:=rx
   cases y with
   | non=>cases ry;exact PySem.EqNone.ne_int_none (zaO I q (by simp))
   | int j=>obtain ⟨t',rfl⟩:=ry;exact ne_int (zaO I q (congrArg not zhc))
   | str j=>obtain ⟨t',rfl⟩:=ry;exact PySem.EqMixed.ne_int_str (zaO I q (by simp))
   | _=>exact absurd (show false=true from hs) Bool.false_ne_true
 | str i =>
   obtain ⟨t,rfl⟩:=rx
   cases y with
   | non=>cases ry;exact PySem.EqNone.ne_str_none (zaO I q (by simp))
   | bl j=>cases ry;exact PySem.EqMixed.ne_str_bool (zaO I q (by simp))
   | int j=>obtain ⟨t',rfl⟩:=ry;exact PySem.EqMixed.ne_str_int (zaO I q (by simp))
   | str j=>obtain ⟨t',rfl⟩:=ry;exact ne_str (zaO I q (congrArg not zhd))
   | _=>exact absurd (show false=true from hs) Bool.false_ne_true
 | byt i =>
   obtain ⟨t,rfl⟩:=rx
   cases y with
   | byt j=>obtain ⟨t',rfl⟩:=ry;exact PySem.W.ne_bytes (zaO I q (congrArg not zhe))
   | _=>exact absurd (show false=true from hs) Bool.false_ne_true
 | _=>cases y <;> exact absurd (show false=true from hs) Bool.false_ne_true
theorem op_lt:OpR X (compareOp .Lt) (rI0 fun i j=>.bl (decide (i < j))):=opB0 fun _ _ _ _ _ _ _ q=>lt_int q
theorem op_gt:OpR X (compareOp .Gt) (rI0 fun i j=>.bl (decide (j < i))):=opB0 fun _ _ _ _ _ _ _ q=>gt_int q
theorem op_ge:OpR X (compareOp .GtE) (rI0 fun i j=>.bl (decide (j≤i))):=opB0 fun _ _ _ _ _ _ _ q=>ge_int q
theorem op_isN:OpR X (compareOp .Is) (fun x y H Q=>y=.non∧Q (.bl (decide (x=.non))) H):=by
 intro pins s σ H x y v u Q I rx ry h;obtain ⟨rfl,q⟩:=h
 cases ry
 refine is_none_gen (zaO I q ?_)
 cases x <;> first
  | (cases rx;rfl)
  | (obtain ⟨t,rfl⟩:=rx;rfl)
theorem OpR.or {f:Value→Value→Sem Value} {r r':R2} (h:OpR X f r) (h':OpR X f r'):OpR X f (fun x y H Q=>r x y H Q∨r' x y H Q):=by
 intro pins s σ H x y v u Q I rx ry q;rcases q with q | q
 ·exact h pins s σ H x y v u Q I rx ry q
 ·exact h' pins s σ H x y v u Q I rx ry q
theorem zat (b:Expr) {op:CmpOp} (h:op≠.In:=by decide) (h2:op≠.NotIn:=by decide):behindInMarks op b=false:=by
 have e1:(op == CmpOp.In)=false:=by cases op <;> first | rfl | exact absurd rfl h
 have e2:(op == CmpOp.NotIn)=false:=by cases op <;> first | rfl | exact absurd rfl h2
 cases b <;> simp [behindInMarks,e1,e2]
theorem zb8 {op:CmpOp} {r:R2} (ho:OpR X (compareOp op) r) (ha:PE X a ta) (hb:PE X b tb) (hm:behindInMarks op b=false):PE X (.Compare a [op] [b] pos) (tOp r ta tb):=by
 intro pins s σ H Q I h;exact wpAny_Compare1 (binT ha hb I h fun v u s2 x y H2 I2 rx ry q=>ho pins s2 σ H2 x y v u Q I2 rx ry q) hm
def zks (t:TE):TT:=fun σ H Q=>t σ H fun x H'=>∃ k,x=.bl k∧Q k H'
theorem zah {op:CmpOp} {r:R2} (ho:OpR X (compareOp op) r) (ha:PE X a ta) (hb:PE X b tb) (hm:behindInMarks op b=false):PT X (.Compare a [op] [b] pos) (zks (tOp r ta tb)):=by
 intro pins s σ H Q I h;refine wpAny_isTrue_Compare1 (thn (ha pins s σ H _ I h) fun v s1 ⟨x,H1,I1,r1,q1⟩=>thn (hb pins s1 σ H1 _ I1 q1) fun u s2 ⟨y,H2,I2,r2,q2⟩ =>
  thn (ho pins s2 σ H2 x y v u _ I2 r1 r2 q2) fun c s3 ⟨z,H3,I3,r3,k,e,q3⟩=>?_) hm
 subst e
 cases r3
 exact wpAny_truthy_bool ⟨H3,I3,q3⟩
def TruV (K:PySem.W.Frag) (x:V) (H:Hp) (k:Bool):Prop :=
 match x with
 | .non=>k=false
 | .bl b=>k=b
 | .int i=>k=(i != 0)
 | .str y=>y.length≤sizeLine∧k=((y.length:Int) != 0)
 | .byt y=>y.size≤sizeLine∧k=((y.size:Int) != 0)
 | .ref p=>(∃ xs,SqL K H p xs∧k = !xs.isEmpty)∨(∃ xs,SqT K H p xs∧k = !xs.isEmpty)∨∃ kvs,H p=some (.dK kvs)∧k = !kvs.isEmpty
 | _=>False
theorem zgv {κ:Type} {kvs:List (κ×V)} {vs:List (κ×Value)} (r:KV kvs vs):(!vs.isEmpty) = !kvs.isEmpty:=by
 cases r <;> rfl
theorem zee {xs:List V} {its:List Value} (r:Vals xs its):(!its.toArray.isEmpty) = !xs.isEmpty:=by
 cases r <;> simp
theorem line63:(sizeLine:Nat) < 2 ^ 63:=by rw [sizeLine_eq];decide
theorem tru_ok:TruR X (fun x H Q=>∃ k,TruV X.K x H k∧Q k H):=by
 intro pins s σ H x v Q I rx h;obtain ⟨k,e,q⟩:=h;have hl:=line63;have hs:sizeLine=16777216:=sizeLine_eq
 cases x with
 | non =>
   cases rx
   have e':k=false:=e;subst e';exact truthy_none ⟨H,I,q⟩
 | bl b =>
   cases rx
   have e':k=b:=e;subst e';exact wpAny_truthy_bool ⟨H,I,q⟩
 | int i =>
   obtain ⟨t,rfl⟩:=rx;have e':k=(i != 0):=e;subst e';exact PySem.P.truthy_int ⟨H,I,q⟩
 | str y =>
   obtain ⟨t,rfl⟩:=rx;obtain ⟨hy,e'⟩:y.length≤sizeLine∧k=((y.length:Int) != 0):=e;subst e';exact PySem.P.truthy_str (by omega) ⟨H,I.tok _,q⟩
 | byt y =>
   obtain ⟨t,rfl⟩:=rx;obtain ⟨hy,e'⟩:y.size≤sizeLine∧k=((y.size:Int) != 0):=e;subst e';exact PySem.W.truthy_bytes (by omega) ⟨H,I.tok _,q⟩
 | ref p =>
   cases rx
   have e':(∃ xs,SqL X.K H p xs∧k = !xs.isEmpty)∨(∃ xs,SqT X.K H p xs∧k = !xs.isEmpty)∨∃ kvs,H p=some (.dK kvs)∧k = !kvs.isEmpty:=e;rcases e' with ⟨xs,hx,e'⟩ | ⟨xs,hx,e'⟩ | ⟨kvs,hx,e'⟩
   ·subst e';obtain ⟨its,r,pl,hz⟩:=I.list hx;have hlen:=r.length;exact wpAny_truthy_list pl.isList (by simp only [List.size_toArray];omega) ⟨H,I.tok _,by rw [zee r];exact q⟩
   ·subst e';obtain ⟨its,r,pl,hz⟩:=I.tuple hx;have hlen:=r.length;exact truthy_tuple pl (by simp only [List.size_toArray];omega) ⟨H,I.tok _,by rw [zee r];exact q⟩
   ·subst e';obtain ⟨hz,hS,vs,r,m⟩:kvs.length≤sizeLine∧(p == sysModules)=false∧∃ vs,KV kvs vs∧s.heap.DictOf (za9 X.prog X.w) p vs:=I.hok p _ hx;have hlen:kvs.length=vs.length:=Paired.length r;exact wpAny_truthy_dict hS m (by omega) ⟨H,I.tok _,by rw [zgv r];exact q⟩
 | _=>exact (show False from e).elim
theorem zit (ha:PE X a ta) (he:∀ whole,isTrue a X.env whole=(do let v ← whole;standAt a.pos;holding [v] (truthy v))) :
  PT X a (fun σ H Q=>ta σ H fun x H'=>∃ k,TruV X.K x H' k∧Q k H'):=by
 intro pins s σ H Q I h;exact isTrue_plain (thn (ha pins s σ H _ I h) fun v s1 ⟨x,H1,I1,r1,q1⟩=>tru_ok pins s1 σ H1 x v Q I1 r1 q1) (he _)
theorem op_add_str:OpR X (binaryOp .Add) (fun x y H Q=>∃ i j,x=.str i∧y=.str j∧i.length+j.length≤sizeLine∧Q (.str (i++j)) H):=by
 intro pins s σ H x y v u Q I rx ry h;obtain ⟨i,j,rfl,rfl,hz,q⟩:=h;obtain ⟨t,rfl⟩:=rx;obtain ⟨t',rfl⟩:=ry;exact add_str (fun t' tk=>⟨.str (i++j),H,I.tok _,⟨_,rfl⟩,q⟩) hz
theorem vals1 {x:V} {us:List Value} (r:Vals [x] us):∃ u,us=[u]∧RelV x u:=by
 cases r with
 | cons r1 r2=>cases r2;exact ⟨_,rfl,r1⟩
theorem vals2 {x y:V} {us:List Value} (r:Vals [x,y] us):∃ u w',us=[u,w']∧RelV x u∧RelV y w':=by
 cases r with
 | cons r1 r2 =>
   cases r2 with
   | cons r3 r4=>cases r4;exact ⟨_,_,rfl,r1,r3⟩
theorem zhf (hc:X.calm=true):zck X (.builtin "max") (fun xs H Q=>∃ i j,xs=[.int i,.int j]∧Q (.int (if j > i then j else i)) H):=by
 intro pins s σ H xs us Q I r h;obtain ⟨i,j,rfl,q⟩:=h;obtain ⟨u,w',rfl,⟨t,rfl⟩,⟨t',rfl⟩⟩:=vals2 r;refine max_two_ints (I.ok.hd hc) fun h' tk k=>⟨_,H,I.kept k,?_,q⟩
 by_cases hj:j > i
 ·rw [if_pos hj,if_pos hj];exact ⟨_,rfl⟩
 ·rw [if_neg hj,if_neg hj];exact ⟨_,rfl⟩
theorem zhg (hc:X.calm=true):zck X (.builtin "min") (fun xs H Q=>∃ i j,xs=[.int i,.int j]∧Q (.int (if j < i then j else i)) H):=by
 intro pins s σ H xs us Q I r h;obtain ⟨i,j,rfl,q⟩:=h;obtain ⟨u,w',rfl,⟨t,rfl⟩,⟨t',rfl⟩⟩:=vals2 r;refine min_two_ints (I.ok.hd hc) fun h' tk k=>⟨_,H,I.kept k,?_,q⟩
 by_cases hj:j < i
 ·rw [if_pos hj,if_pos hj];exact ⟨_,rfl⟩
 ·rw [if_neg hj,if_neg hj];exact ⟨_,rfl⟩
theorem call_int1:zck X (.type "int") (fun xs H Q=>(∃ i,xs=[.int i]∧Q (.int i) H)∨∃ k,xs=[.bl k]∧Q (.int (if k then 1 else 0)) H):=by
 intro pins s σ H xs us Q I r h;rcases h with ⟨i,rfl,q⟩ | ⟨k,rfl,q⟩
 ·obtain ⟨u,rfl,t,rfl⟩:=vals1 r;exact call_int_int ⟨.int i,H,I,⟨_,rfl⟩,q⟩
 ·obtain ⟨u,rfl,r1⟩:=vals1 r
  cases r1
  exact call_int_bool ⟨.int (if k then 1 else 0),H,I.tok _,⟨_,rfl⟩,q⟩
theorem call_str_int:zck X (.type "str") (fun xs H Q=>∃ i,xs=[.int i]∧i.natAbs.log2 < 1920∧Q (.str (toString i)) H):=by
 intro pins s σ H xs us Q I r h;obtain ⟨i,rfl,hz,q⟩:=h;obtain ⟨u,rfl,t,rfl⟩:=vals1 r;exact PySem.P.str_of_int hz ⟨.str _,H,I.tok _,⟨_,rfl⟩,q⟩
end
end L2
namespace L2
open PySem PySem.Spec PyProof.Rows
structure ObjM (h:Heap) (x dx C:Addr) (mA:Str→Option Value):Prop where
 obj:h.get? x=some (PySem.W.instObj C dx)
 ns:h.Ns1 dx mA
 ne:dx≠x
theorem zhh {h:Heap} {dx:Addr} {mA:Str→Option Value} (n:h.Ns1 dx mA):∃ od,h.get? dx=some od∧∀ name,PySem.W.lookIn name od=some (mA name):=by
 obtain ⟨o,es,ep,ho,hd,hk,_,hm⟩:=n;refine ⟨o,ho,fun name=>?_⟩;have e:=hm name;unfold nsFind findBy at e;rw [← Array.find?_toList] at e;unfold PySem.W.lookIn;rw [hd];dsimp only;split
 ·rename_i y q
  rw [q] at e;exact congrArg some e
 ·rename_i q
  rw [q] at e;have a:es.toList.any (·.refKey)=false:=by
   rw [List.any_eq_false];intro y hy;obtain ⟨z,t,hkey⟩:=hk y (Array.mem_toList_iff.mp hy);simp [DictEntry.refKey,hkey]
  have a':¬es.toList.any (·.refKey)=true:=by rw [a];exact Bool.false_ne_true
  rw [if_neg a'];exact congrArg some e
theorem ObjM.look {h:Heap} {x dx C:Addr} {mA:Str→Option Value} (I:ObjM h x dx C mA):∃ od,PySem.W.InstAt h x (PySem.W.instObj C dx) C (some od)∧∀ name,PySem.W.lookIn name od=some (mA name) :=
 let ⟨od,ho,hl⟩:=zhh I.ns
 ⟨od,⟨I.obj,rfl,rfl,ho⟩,hl⟩
section
variable {prog:Program} {w:World} {A:Around} {E:Value→Shared→Prop} {s:Shared} {K:PySem.W.Frag} {x dx C f:Addr} {mA:Str→Option Value} {name:Str} {v:Value}
theorem zjw {expr:Bool} {Q:Value→Shared→Prop} (X:K.In s.heap) (I:ObjM s.heap x dx C mA) (hg:PySem.W.plainGet K C name=true) (hh:PySem.W.hasDictIn K C=true)
  (ha:PySem.W.findIn K (.ref C) name=some none) (hv:mA name=some v) (hv':PySem.W.handedIn v=true) (h:Q v { s with toks:=s.toks+1 }) :
  wpAny (model prog w) A (getAttr (.ref x) name expr) Q E s:=by
 obtain ⟨od,J,hl⟩:=I.look;exact PySem.W.get_value X J (PySem.W.plainGet_of hg).1 (PySem.W.findObj_own hh ha rfl (by rw [hl,hv])) hv' h
theorem ziu {pl:Sem Bool} {Q:Value×List Value→Shared→Prop} (X:K.In s.heap) (I:ObjM s.heap x dx C mA) (hg:PySem.W.plainGet K C name=true)
  (hf:PySem.W.findIn K (.ref C) name=some (some (.ref f))) (ht:PySem.W.isFn K (.ref f)=true) (hv:mA name=none) (h:Q (.ref f,[.ref x]) s) :
  wpAny (model prog w) A (getMethod (.ref x) name pl) Q E s:=by
 obtain ⟨od,J,hl⟩:=I.look;exact PySem.W.method_fn X J (PySem.W.plainGet_of hg).1 (PySem.W.plainGet_of hg).2 hf (beq_iff_eq.mp ht) (by show (PySem.W.lookIn name od).map (·.isSome)=some false;rw [hl,hv];rfl) h
theorem zjx {ns:List Str} {Q:Unit→Shared→Prop} (X:K.In s.heap) (I:ObjM s.heap x dx C mA)
  (hs:PySem.W.findIn K (.ref C) "__setattr__" = some (some (.builtin "object.__setattr__"))) (hp:PySem.W.plainOver K C=true) (ht:PySem.W.takerIn K C name=some none) (hh:PySem.W.hasDictIn K C=true)
  (hw:PySem.Within mA ns) (hsz:ns.length≤sizeLine)
  (h:∀ h',ObjM h' x dx C (fun y=>if y=name then some v else mA y)→Heap.SameBut dx s.heap h'→Q () { s with heap:=h',toks:=s.toks+2 }) :
  wpAny (model prog w) A (setAttr (.ref x) name v) Q E s:=by
 obtain ⟨od,J,hl⟩:=I.look;refine PySem.W.set_plain X J hs (PySem.W.osa_open (s:={ s with toks:=s.toks+1 }) (r:=none) X J hp ht fun b=>?_);obtain ⟨cd,hc,hd'⟩:=PySem.W.any_some hh;have hx:s.heap.get? x=some ⟨.ref C,some dx,.plain,#[]⟩:=I.obj;refine wpAny_bind (wpAny_pure (wpAny_bind (wpAny_bind (wpAny_loadPart hx (wpAny_bind (PySem.W.Looks.here (s:={ s with toks:=s.toks+1 }) (PySem.W.looks_clsIn X hc) ?_))))));rw [hd'];refine wpAny_pure (a:=some dx) (wpAny_bind (wpAny_pure (wpAny_bind ?_)));refine wpAny_nsSet1 (s:={ s with toks:=s.toks+1 }) I.ns fun h' hn2 hs2=>?_;obtain ⟨oD,esD,epD,hoD,hdD,hcD⟩:=hn2.count (PySem.Within.cons name v hw);refine wpAny_bind (wpAny_lookBehind hoD (by rw [hdD];exact pastItsLine_dict (Nat.le_trans hcD (by rw [List.length_cons];omega))) ?_);exact wpAny_pure (h _ ⟨(hs2.2 _ (Ne.symm I.ne)).trans I.obj,hn2,I.ne⟩ hs2)
theorem ziv {R:Result→Shared→Prop} {vs:List Value} {kw:List (Str×Value)} (X:K.In s.heap) (hm:PySem.W.makesIn K C=true)
  (hi:PySem.W.findIn K (.ref C) "__init__" = some (some (.ref f))) (hf:PySem.W.typeIn K (.ref f)=some (.type "function"))
  (h:codeAny (model prog w) (A.under (.builtin "type.__call__" ⟨.ref C::vs,kw⟩)) (.call (.ref f) ⟨.ref (s.heap.objs.size+1)::vs,kw⟩) (PySem.W.InitBack (s.heap.objs.size+1) R)
   { s with heap:=(s.heap.push PySem.W.emptyDict).push (PySem.W.instObj C s.heap.objs.size) }) :
  codeAny (model prog w) A (.call (.ref C) ⟨vs,kw⟩) R s:=by
 obtain ⟨hh,g,d,t,os⟩:=s;exact PySem.W.make_core (PySem.W.makes_of X hm) (PySem.W.looks_findIn X hi) (fun self=>PySem.W.bind_fn X self hf) (.inl rfl) h
end
def putF (f:Str) (v:V):List (Str×V)→List (Str×V)
 | []=>[(f,v)]
 | (g,x)::r=>if g=f then (g,v)::r else (g,x)::putF f v r
theorem zaX (f g:Str) (v:V):∀ fs:List (Str×V),(putF f v fs).lookup g=if g=f then some v else fs.lookup g
 | []=>by
   show List.lookup g [(f,v)]=_
   by_cases h:g=f
   ·have hb:(g == f)=true:=beq_iff_eq.mpr h;simp only [List.lookup,hb,if_pos h]
   ·have hb:(g == f)=false:=beq_eq_false_iff_ne.mpr h;simp only [List.lookup,hb,if_neg h]
 | (k,x)::r=>by
  have ih:=zaX f g v r;rw [show putF f v ((k,x)::r)=(if k=f then (k,v)::r else (k,x)::putF f v r) from rfl]
  by_cases hk:k=f
  ·rw [if_pos hk]
   by_cases h:g=k
   ·have hb:(g == k)=true:=beq_iff_eq.mpr h;simp only [List.lookup,hb,if_pos (h.trans hk)]
   ·have hb:(g == k)=false:=beq_eq_false_iff_ne.mpr h;simp only [List.lookup,hb,if_neg (fun e:g=f=>h (e.trans hk.symm))]
  ·rw [if_neg hk]
   by_cases h:g=k
   ·have hb:(g == k)=true:=beq_iff_eq.mpr h;simp only [List.lookup,hb,if_neg (fun e:g=f=>hk (h.symm.trans e))]
   ·have hb:(g == k)=false:=beq_eq_false_iff_ne.mpr h;simp only [List.lookup,hb];exact ih
theorem zdx (f:Str) (v:V):∀ fs:List (Str×V),f∈(putF f v fs).map (·.1)∧∀ g,g∈fs.map (·.1)→g∈(putF f v fs).map (·.1)
 | []=>⟨by simp [putF],fun g h=>by simp at h⟩
 | (k,x)::r=>by
  obtain ⟨i1,i2⟩:=zdx f v r;rw [show putF f v ((k,x)::r)=(if k=f then (k,v)::r else (k,x)::putF f v r) from rfl]
  by_cases hk:k=f
  ·rw [if_pos hk];subst hk;exact ⟨by simp,fun g h=>by simpa using h⟩
  ·rw [if_neg hk];refine ⟨?_,fun g h=>?_⟩
   ·rw [List.map_cons];exact List.mem_cons_of_mem _ i1
   ·rw [List.map_cons] at h ⊢;rcases List.mem_cons.mp h with e | e
    ·exact List.mem_cons.mpr (.inl e)
    ·exact List.mem_cons_of_mem _ (i2 g e)
theorem zdy (f:Str) (v:V):∀ fs:List (Str×V),(putF f v fs).length≤fs.length+1
 | []=>by simp [putF]
 | (k,x)::r=>by
  have ih:=zdy f v r;rw [show putF f v ((k,x)::r)=(if k=f then (k,v)::r else (k,x)::putF f v r) from rfl]
  by_cases hk:k=f
  ·rw [if_pos hk,List.length_cons,List.length_cons];omega
  ·rw [if_neg hk,List.length_cons,List.length_cons];omega
theorem RelO.some_of {v:V} {o:Option Value} (r:RelO (some v) o):∃ u,o=some u∧RelV v u:=by
 cases o with
 | none=>exact (show False from r).elim
 | some u=>exact ⟨u,rfl,r⟩
theorem RelO.none_of {o:Option Value} (r:RelO none o):o=none:=by
 cases o with
 | none=>rfl
 | some u=>exact (show False from r).elim
theorem zhi {v:V} {u:Value} (r:RelV v u):PySem.W.handedIn u=true:=by
 cases v with
 | non=>cases (show u=Value.none from r);rfl
 | bl b=>cases (show u=Value.bool b from r);rfl
 | int i=>obtain ⟨t,e⟩:=(show ∃ t,u=Value.int i t from r);cases e;rfl
 | str x=>obtain ⟨t,e⟩:=(show ∃ t,u=Value.str x t from r);cases e;rfl
 | byt b=>obtain ⟨t,e⟩:=(show ∃ t,u=Value.bytes b t from r);cases e;rfl
 | flt b=>obtain ⟨t,e⟩:=(show ∃ t,u=Value.float b t from r);cases e;rfl
 | ref a=>cases (show u=Value.ref a from r);rfl
 | ty n=>cases (show u=Value.type n from r);rfl
section
variable {P:Program} {w:World} {H H':Hp} {h h':Heap} {a C dx:Addr} {fs fs':List (Str×V)}
theorem zer (hok:HOk P w H h) (e:H a=some (.ins C dx fs)):∃ mA,ObjM h a dx C mA∧(∀ f,RelO (fs.lookup f) (mA f))∧PySem.Within mA (fs.map (·.1))∧fs.length≤1000∧H dx=some (.own a):=by
 obtain ⟨d,z,ne,ob,mA,n,r,q⟩:=(show zbl P w H h a (.ins C dx fs) from hok a _ e)
 exact ⟨mA,⟨ob,n,ne⟩,r,q,z,d⟩
end
structure Cls (K:PySem.W.Frag) (C:Addr):Prop where
 pg:PySem.W.plainGet K C Str.empty=true
 hd:PySem.W.hasDictIn K C=true
 po:PySem.W.plainOver K C=true
 sa:PySem.W.findIn K (.ref C) "__setattr__" = some (some (.builtin "object.__setattr__"))
theorem Cls.get {K:PySem.W.Frag} {C:Addr} (c:Cls K C) (f:Str):PySem.W.plainGet K C f=true:=c.pg
def zbs (K:PySem.W.Frag) (C:Addr) (f:Str):Prop:=PySem.W.findIn K (.ref C) f=some none
theorem zbs.taker {K:PySem.W.Frag} {C:Addr} {f:Str} (n:zbs K C f):PySem.W.takerIn K C f=some none:=by
 unfold PySem.W.takerIn;rw [show PySem.W.findIn K (.ref C) f=some none from n];rfl
structure Meth (K:PySem.W.Frag) (C:Addr) (m:Str) (f:Addr):Prop where
 at_:PySem.W.findIn K (.ref C) m=some (some (.ref f))
 fn:PySem.W.isFn K (.ref f)=true
 kp:PySem.W.keepIn K (.ref f)=true
section
variable {X:Cx} {pins:List (Addr×Obj)} {σ:St} {H:Hp} {s:Shared} {a C dx:Addr} {fs:List (Str×V)} {f:Str} {v:V} {A:Around} {E:Value→Shared→Prop}
theorem zgw {b:Bool} {Q:Value→Shared→Prop} (I:Inv X pins σ H s) (e:H a=some (.ins C dx fs)) (c:Cls X.K C) (n:zbs X.K C f) (l:fs.lookup f=some v)
  (h:∀ u s',Inv X pins σ H s'→RelV v u→Q u s'):wpAny (model X.prog X.w) A (getAttr (.ref a) f b) Q E s:=by
 obtain ⟨mA,O,r,_,_,_⟩:=zer I.hok e;obtain ⟨u,hu,ru⟩:=RelO.some_of (v:=v) (o:=mA f) (by rw [← l];exact r f);exact zjw I.kIn O (c.get f) c.hd n hu (zhi ru) (h u _ (I.tok _) ru)
theorem zef {m:Str} {g:Addr} {pl:Sem Bool} {Q:Value×List Value→Shared→Prop} (I:Inv X pins σ H s) (e:H a=some (.ins C dx fs)) (c:Cls X.K C) (k:Meth X.K C m g) (l:fs.lookup m=none)
  (h:Q (.ref g,[.ref a]) s):wpAny (model X.prog X.w) A (getMethod (.ref a) m pl) Q E s:=by
 obtain ⟨mA,O,r,_,_,_⟩:=zer I.hok e;have hn:mA m=none:=RelO.none_of (by rw [← l];exact r m);exact ziu I.kIn O (c.get m) k.at_ k.fn hn h
theorem zgx {y:V} {u:Value} {Q:Unit→Shared→Prop} (I:Inv X pins σ H s) (e:H a=some (.ins C dx fs)) (c:Cls X.K C) (n:zbs X.K C f) (hl:fs.length < 1000) (ry:RelV y u)
  (h:∀ s',Inv X pins σ (upd H a (.ins C dx (putF f y fs))) s'→Q () s'):wpAny (model X.prog X.w) A (setAttr (.ref a) f u) Q E s:=by
 obtain ⟨mA,O,r,wi,_,ho⟩:=zer I.hok e;have hz:(fs.map (·.1)).length≤sizeLine:=by rw [List.length_map,sizeLine_eq];omega
 refine zjx I.kIn O c.sa c.po n.taker c.hd wi hz fun h' O' sb=>h _ ?_;have hd:∃ o,h'.get? dx=some o:=let ⟨o,_,_,e',_⟩:=O'.ns;⟨o,e'⟩;refine I.write (x:=a) (e:=dx) (by rw [e];exact True.intro) (.inr ho) (fun b q hb z=>(sb.2 b hb).trans z) hd ?_;refine ⟨by rw [zaJ O.ne];exact ho,?_,O.ne,O'.obj,_,O'.ns,fun g=>?_,fun g hg=>?_⟩
 ·have:=zdy f y fs;omega
 ·show RelO ((putF f y fs).lookup g) (if g=f then some u else mA g);rw [zaX]
  by_cases q:g=f
  ·rw [if_pos q,if_pos q];exact ry
  ·rw [if_neg q,if_neg q];exact r g
 ·by_cases q:g=f
  ·rw [q];exact (zdx f y fs).1
  ·refine (zdx f y fs).2 g (wi g fun z=>hg ?_);show (if g=f then some u else mA g)=none;rw [if_neg q];exact z
theorem Inv.made (I:Inv X pins σ H s):Inv X pins σ (upd (upd H s.heap.objs.size (.own (s.heap.objs.size+1))) (s.heap.objs.size+1) (.ins C s.heap.objs.size []))
  { s with heap:=(s.heap.push PySem.W.emptyDict).push (PySem.W.instObj C s.heap.objs.size) }:=by
 have e1:(s.heap.push PySem.W.emptyDict).get? s.heap.objs.size=some PySem.W.emptyDict:=Heap.get?_push_size s.heap rfl;have e2:((s.heap.push PySem.W.emptyDict).push (PySem.W.instObj C s.heap.objs.size)).get? (s.heap.objs.size+1)=some (PySem.W.instObj C s.heap.objs.size):=by
  have:=Heap.get?_push_size (s.heap.push PySem.W.emptyDict) (o:=PySem.W.instObj C s.heap.objs.size) rfl
  rwa [Heap.size_push] at this
 have e3:(s.heap.push PySem.W.emptyDict).Ns s.heap.objs.size (fun _=>none):=⟨PySem.W.emptyDict,#[],_,e1,rfl,(fun e he=>absurd he (by simp)),fun _=>rfl⟩
 have I1:=I.laid (a:=s.heap.objs.size) (o:=.own (s.heap.objs.size+1)) (h':=s.heap.push PySem.W.emptyDict) (t':=s.toks) (fun b u q=>Heap.get?_push_of_some _ q) (Nat.le_refl _) ⟨_,e1⟩;refine I1.laid (a:=s.heap.objs.size+1) (o:=.ins C s.heap.objs.size []) (t':=s.toks) (fun b u q=>Heap.get?_push_of_some _ q) (Nat.le_of_eq (Heap.size_push _ _)) ?_;have ne:s.heap.objs.size≠s.heap.objs.size+1:=Nat.ne_of_lt (Nat.lt_succ_self _);refine ⟨by rw [zaJ ne,zaq],Nat.zero_le _,ne,e2,fun _=>none,(Heap.Ns1.of_empty e3).at fun o q=>Heap.get?_push_of_some _ q,fun _=>True.intro,fun y hy=>absurd rfl hy⟩
theorem zjy {prog:Program} {w:World} {env:Env} {e:Expr} {f:Str} {pos:Pos} {s:Shared} {Q:Value→Shared→Prop} (hb:attributeBase e f env (eval e env)=eval e env)
  (h:wpAny (model prog w) A (eval e env) (fun o s₁=>wpAny (model prog w) A (getAttr o f true) Q E s₁) E s):wpAny (model prog w) A (eval (.Attribute e f pos) env) Q E s :=
 Attribute_any_ h (by rw [arm_eval_Attribute,hb])
end
def tFld (K:PySem.W.Frag) (ta:TE) (f:Str):TE:=fun σ H Q=>ta σ H fun x H1=>∃ a C dx fs v,x=.ref a∧H1 a=some (.ins C dx fs)∧Cls K C∧zbs K C f∧fs.lookup f=some v∧Q v H1
def sFld (K:PySem.W.Frag) (ta tv:TE) (f:Str):TS:=fun D σ H=>tv σ H fun y H1=>ta σ H1 fun x H2=>∃ a C dx fs,x=.ref a∧H2 a=some (.ins C dx fs)∧Cls K C∧zbs K C f∧fs.length < 1000 ∧
 D.nx σ (upd H2 a (.ins C dx (putF f y fs)))
section
variable {X:Cx} {o e value:Expr} {f:Str} {pos pos' tpos:Pos} {ta tv:TE}
theorem zkt (he:PE X e ta) (hb:attributeBase e f X.env (eval e X.env)=eval e X.env):PE X (.Attribute e f pos) (tFld X.K ta f):=by
 intro pins s σ H Q I h;refine zjy hb (thn (he pins s σ H _ I h) fun u s1 ⟨x,H1,I1,rx,a,C,dx,fs,v,ex,ea,c,n,l,q⟩=>?_);subst ex;obtain rfl:u=Value.ref a:=rx;exact zgw I1 ea c n l fun u' s2 I2 ru=>⟨v,H1,I2,ru,q⟩
theorem zku (ha:PE X o ta) (hv:PE X value tv) (hs:swapsWith value (some (.Attribute o f pos')) pos.line X.env=pure false):PS X (.Assign [.Attribute o f pos'] value pos) (sFld X.K ta tv f):=by
 intro pins s σ H D I h;refine plainObj_wpAny_Assign_Attribute (thn (hv pins s σ H _ I h) fun u s1 ⟨y,H1,I1,ry,q⟩=>thn (ha pins s1 σ H1 _ I1 q) fun ov s2 ⟨x,H2,I2,rx,a,C,dx,fs,ex,ea,c,n,l,q2⟩=>?_) hs;subst ex;obtain rfl:ov=Value.ref a:=rx;exact zgx I2 ea c n l ry fun s3 I3=>⟨σ,_,I3,q2⟩
end
section
variable {X:Cx} {pins:List (Addr×Obj)} {σ:St} {H:Hp} {s:Shared} {A:Around} {E:Value→Shared→Prop} {Q:Value→Shared→Prop} {c:Value} {b:Bool}
inductive TyOf (K:PySem.W.Frag) (H:Hp):V→Value→Prop where
 | non:TyOf K H .non (.type "NoneType")
 | bl (x:Bool):TyOf K H (.bl x) (.type "bool")
 | int (i:Int):TyOf K H (.int i) (.type "int")
 | str (x:Str):TyOf K H (.str x) (.type "str")
 | flt (x:UInt64):TyOf K H (.flt x) (.type "float")
 | lst {a:Addr} {xs:List V} (e:H a=some (.lst xs)):TyOf K H (.ref a) (.type "list")
 | frz {a:Addr} {o:Obj} {xs:List V} (e:H a=some (.frz o (.lst xs))):TyOf K H (.ref a) (.type "list")
 | tup {a:Addr} {xs:List V} (e:H a=some (.tup xs)):TyOf K H (.ref a) (.type "tuple")
 | dK {a:Addr} {kvs:List (Key×V)} (e:H a=some (.dK kvs)):TyOf K H (.ref a) (.type "dict")
 | dT {a:Addr} {kvs:List (List Key×V)} (e:H a=some (.dT kvs)):TyOf K H (.ref a) (.type "dict")
 | ins {a C dx:Addr} {fs:List (Str×V)} (e:H a=some (.ins C dx fs)) (cl:Cls K C) (ha:PySem.W.findIn K (.ref C) "__class__" = some (some (.builtin "object.__class__")))
    (hn:PySem.W.specialIn K (.builtin "object.__class__") "__get__" = some (some (.builtin "getset_descriptor.__get__"))) (htk:PySem.W.takesIn K (.builtin "object.__class__")=some true)
    (hm:PySem.W.mroIn K C (.type "object")=some true):TyOf K H (.ref a) (.ref C)
theorem zhj {x:V} {u t:Value} (I:Inv X pins σ H s) (rx:RelV x u) (ty:TyOf X.K H x t) (e:PySem.W.kitOne X.K t c=some b) (h:∀ tk,Q (.bool b) { s with toks:=tk }) :
  wpAny (model X.prog X.w) A (call (.builtin "isinstance") [u,c]) Q E s:=by
 cases ty with
 | non=>cases (show u=Value.none from rx);exact PySem.W.kia_one PySem.W.kitx_none I.kIn True.intro e (fun z=>nomatch z) h
 | bl y=>cases (show u=Value.bool y from rx);exact PySem.W.kia_one PySem.W.kitx_bool I.kIn True.intro e (fun z=>nomatch z) h
 | int i=>obtain ⟨t,q⟩:=(show ∃ t,u=Value.int i t from rx);cases q;exact PySem.W.kia_one PySem.W.kitx_int I.kIn True.intro e (fun z=>nomatch z) h
 | str y=>obtain ⟨t,q⟩:=(show ∃ t,u=Value.str y t from rx);cases q;exact PySem.W.kia_one PySem.W.kitx_str I.kIn True.intro e (fun z=>nomatch z) h
 | flt y=>obtain ⟨t,q⟩:=(show ∃ t,u=Value.float y t from rx);cases q;exact PySem.W.kia_one PySem.W.kitx_float I.kIn True.intro e (fun z=>nomatch z) h
 | @lst a xs ea =>
   cases (show u=Value.ref a from rx)
   obtain ⟨_,_,n,_,h1⟩:=(show zbl X.prog X.w H s.heap a (.lst xs) from I.hok a _ ea)
   exact PySem.W.kia_one PySem.W.kitx_list I.kIn ⟨_,h1,rfl⟩ e (fun z=>nomatch z) h
 | @frz a ob xs ea =>
   cases (show u=Value.ref a from rx)
   obtain ⟨_,_,_,n,_,h1⟩:=(show zbl X.prog X.w H s.heap a (.frz ob (.lst xs)) from I.hok a _ ea)
   exact PySem.W.kia_one PySem.W.kitx_list I.kIn ⟨_,h1,rfl⟩ e (fun z=>nomatch z) h
 | @tup a xs ea =>
   cases (show u=Value.ref a from rx)
   obtain ⟨_,_,_,p⟩:=(show zbl X.prog X.w H s.heap a (.tup xs) from I.hok a _ ea)
   obtain ⟨o,h1,h2,_⟩:=p;exact PySem.W.kia_one PySem.W.kitx_tuple I.kIn ⟨o,h1,h2⟩ e (fun z=>nomatch z) h
 | @dK a kvs ea =>
   cases (show u=Value.ref a from rx)
   obtain ⟨_,_,vs,_,p⟩:=(show zbl X.prog X.w H s.heap a (.dK kvs) from I.hok a _ ea)
   obtain ⟨o,es,ep,h1,h2,_⟩:=p;exact PySem.W.kia_one PySem.W.kitx_dict I.kIn ⟨o,h1,h2.1⟩ e (fun z=>nomatch z) h
 | @dT a kvs ea =>
   cases (show u=Value.ref a from rx)
   obtain ⟨_,_,xs,_,o,es,ep,h1,h2,_⟩:=(show zbl X.prog X.w H s.heap a (.dT kvs) from I.hok a _ ea)
   exact PySem.W.kia_one PySem.W.kitx_dict I.kIn ⟨o,h1,h2.1⟩ e (fun z=>nomatch z) h
 | @ins a C dx fs ea cl ha hn htk hm =>
   cases (show u=Value.ref a from rx)
   obtain ⟨mA,O,_⟩:=zer I.hok ea;obtain ⟨od,J,_⟩:=O.look;exact PySem.W.kia_one (PySem.W.kitx_own (cl.get _) cl.hd ha hn htk hm) I.kIn J e (fun z=>nomatch z) h
end
end L2
namespace L2
open PySem PySem.Spec PyProof.Rows
structure Room (k:Nat) (A:Around):Prop where
 hd:A.handled=none
 dp:A.depth+3 * k+5 < recursionLimit
 un:A.units+16 * k+200 < cLine
theorem Room.mono {j k:Nat} {A:Around} (r:Room k A) (h:j≤k):Room j A:=⟨r.hd,by have:=r.dp;omega,by have:=r.un;omega⟩
theorem Room.deeper {k:Nat} {A:Around} (r:Room (k+1) A) (env:Env):Room k (A.deeper env) :=
 ⟨r.hd,by have:=r.dp;show A.depth+1+3 * k+5 < _;omega,by have:=r.un;show A.units+3+16 * k+200 < _;omega⟩
theorem zgy {A:Around} {C:Addr} {us:List Value} {kw:List (Str×Value)}:(A.under (.builtin "type.__call__" ⟨.ref C::us,kw⟩)).depth=A.depth+1:=by
 first | rfl | simp [Around.under,Code.weight,Code.isCreation,Code.isGuard,Code.isCaller,Code.frames,Code.isFrame,guardIds]
theorem zgz {A:Around} {C:Addr} {us:List Value} {kw:List (Str×Value)}:(A.under (.builtin "type.__call__" ⟨.ref C::us,kw⟩)).units=A.units+1:=by
 first | rfl | simp [Around.under,Code.cUnits,Code.frames,Code.isFrame]
theorem Room.make {k:Nat} {A:Around} (r:Room (k+1) A) (C:Addr) (us:List Value) (kw:List (Str×Value)):Room k (A.under (.builtin "type.__call__" ⟨.ref C::us,kw⟩)) :=
 ⟨r.hd,by have:=r.dp;rw [zgy];omega,by have:=r.un;rw [zgz];omega⟩
theorem Room.depth {k:Nat} {A:Around} (r:Room k A):A.depth < recursionLimit:=by have:=r.dp;omega
theorem Room.units {k:Nat} {A:Around} (r:Room k A):A.units+64 < cLine:=by have:=r.un;omega
theorem Room.units0 {k:Nat} {A:Around} (r:Room k A):A.units < cLine:=by have:=r.un;omega
def tNil:TA:=fun _ H Q=>Q [] H
def zhk (ta:TE) (tr:TA):TA:=fun σ H Q=>ta σ H fun x H1=>tr σ H1 fun xs H2=>Q (x::xs) H2
section
variable {X:Cx} {e:Expr} {es:List Expr} {te:TE} {t:TA} {pos:Pos}
theorem pa_nil:PA X [] tNil:=fun _ _ _ _ H Q I h=>Calls.spliced_nil ⟨[],H,I,.nil,h⟩
theorem zaa (ha:PE X e te) (hr:PA X es t) (hs:starEach (e::es) X.env=(false,eval e X.env)::starEach es X.env:=by rfl):PA X (e::es) (zhk te t):=by
 intro pos pins s σ H Q I h;rw [hs];show wpAny _ _ (spliced ((false,eval e X.env)::backTo pos (starEach es X.env))) _ _ s;refine Calls.spliced_cons (thn (ha pins s σ H _ I h) fun u s1 ⟨x,H1,I1,r1,q1⟩=>?_);exact thn (hr pos pins s1 σ H1 _ I1 q1) fun us s2 ⟨xs,H2,I2,r2,q2⟩=>⟨x::xs,H2,I2,.cons r1 r2,q2⟩
def tTup (t:TA):TE:=fun σ H Q=>t σ H fun xs H1=>xs.length≤sizeLine∧∀ p,H1 p=none→Q (.ref p) (upd H1 p (.tup xs))
def tLst (t:TA):TE:=fun σ H Q=>t σ H fun xs H1=>xs.length≤sizeLine∧∀ p,H1 p=none→Q (.ref p) (upd H1 p (.lst xs))
theorem zkv {x1} (h:PA X es t):PE X (.Tuple es x1 pos) (tTup t):=by
 intro pins s σ H Q I hq;refine wpAny_Tuple_spliced (thn (h pos pins s σ H _ I hq) fun us s1 ⟨xs,H1,I1,r,z,q⟩=>⟨by rw [← r.length];exact z,?_⟩);have hf:H1 s1.heap.objs.size=none:=I1.hok.fresh (Nat.le_refl _);refine ⟨.ref s1.heap.objs.size,upd H1 s1.heap.objs.size (.tup xs),I1.laid (t':=s1.toks) (fun b u e=>Heap.get?_push_of_some _ e) (Nat.le_refl _) ?_,rfl,q _ hf⟩;exact ⟨z,us,r,⟨_,Heap.get?_push_size _ rfl,rfl,_,rfl⟩⟩
theorem zaB (h:PA X es t):PE X (.List es pos) (tLst t):=by
 intro pins s σ H Q I hq;refine wpAny_List_spliced (thn (h pos pins s σ H _ I hq) fun us s1 ⟨xs,H1,I1,r,z,q⟩=>⟨by rw [← r.length];exact z,?_⟩);have hf:H1 s1.heap.objs.size=none:=I1.hok.fresh (Nat.le_refl _);refine ⟨.ref s1.heap.objs.size,upd H1 s1.heap.objs.size (.lst xs),I1.laid (t':=s1.toks) (fun b u e=>Heap.get?_push_of_some _ e) (Nat.le_refl _) ?_,rfl,q _ hf⟩;exact ⟨z,us,0,r,Heap.get?_push_size _ rfl⟩
end
abbrev Sp:=List V→Hp→VK→XK→Prop
abbrev CXT:=List Env→Hp→Shared→XK→Value→Shared→Prop
structure Env0 (P:Program) (w:World) (K:PySem.W.Frag) (mg:Str→Option Value) (base:Heap) (A:Around) (outer:List Env) (s:Shared) (H:Hp):Prop where
 frames:A.frames=some outer
 mod:Mod K mg base
 bs:∀ b o,base.get? b=some o→s.heap.get? b=some o∧H b=none
 bsz:base.objs.size≤s.heap.objs.size
 funs:s.heap.FunFrames base outer
 frf:∀ b∈frs outer,H b=none
 hok:HOk P w H s.heap
 bare:AllBare s.gens
def CE (outer:List Env) (P:Program) (w:World) (H:Hp) (s:Shared) (Q:VK) (u:Value) (s':Shared):Prop :=
 ∃ v H',s'.os=s.os∧AllBare s'.gens∧Un (frs outer) [] H H' s.heap s'.heap∧HOk P w H' s'.heap∧RelV v u∧Q v H'
def CR (CX:CXT) (outer:List Env) (P:Program) (w:World) (H:Hp) (s:Shared) (Q:VK) (E:XK) (r:Result) (s':Shared):Prop :=
 match r with
 | .ok (.ret u)=>CE outer P w H s Q u s'
 | .ok _=>False
 | .error e=>CX outer H s E e s'
structure FnOk (P:Program) (w:World) (K:PySem.W.Frag) (mg:Str→Option Value) (base:Heap) (CX:CXT) (k:Nat) (f:Addr) (fd:FuncData) (ps:List Str) (sp:Sp):Prop where
 len:∀ vs H Q E,sp vs H Q E→vs.length=ps.length
 run:∀ (A:Around) (outer:List Env) (s:Shared) (H:Hp) (args:Args) (us:List Value) (vs:List V) (Q:VK) (E:XK),Room k A→Env0 P w K mg base A outer s H→BindsTo s fd args (ps.zip us)→Vals vs us→sp vs H Q E →
  codeAny (model P w) A (.call (.ref f) args) (CR CX outer P w H s Q E) s
theorem Env0.make {P:Program} {w:World} {K:PySem.W.Frag} {mg:Str→Option Value} {base:Heap} {A:Around} {outer:List Env} {s:Shared} {H:Hp} (e:Env0 P w K mg base A outer s H) (C:Addr) (us:List Value) (kw:List (Str×Value)) :
  Env0 P w K mg base (A.under (.builtin "type.__call__" ⟨.ref C::us,kw⟩)) outer s H:=⟨by first | exact e.frames | (simpa [Around.under,Code.envs,Code.isFrame,pushEnvs] using e.frames),e.mod,e.bs,e.bsz,e.funs,e.frf,e.hok,e.bare⟩
section
variable {X:Cx} {pins:List (Addr×Obj)} {σ:St} {H:Hp} {s s':Shared}
theorem Inv.env0 (I:Inv X pins σ H s):Env0 X.prog X.w X.K X.mg X.base X.A X.stack s H :=
 ⟨I.ok.frames,I.ok.mod,I.bs,Nat.le_trans I.ok.bsz I.sz,I.stack,I.stkFree,I.hok,I.bare⟩
theorem Inv.after {Q:VK} {u:Value} (I:Inv X pins σ H s) (h:CE X.stack X.prog X.w H s Q u s'):EP X pins σ Q u s':=by
 obtain ⟨v,H',os,bare,un,hok,r,q⟩:=h;obtain ⟨hh,g,d,t,os'⟩:=s';obtain rfl:os'=s.os:=os;exact ⟨v,H',I.call (h':=hh) (g':=g) (d':=d) (t':=t) (ch:=[]) un hok bare (fun b z=>absurd z (by simp)),r,q⟩
end
def ziw (sp:Sp) (dvs:List V) (E:XK) (t:TA):TE:=fun σ H Q=>t σ H fun vs H1=>sp (vs++dvs) H1 Q E
def zjz (C:Addr) (m:Str) (sp:Sp) (dvs:List V) (E:XK) (ta:TE) (t:TA):TE:=fun σ H Q=>ta σ H fun x H1=>∃ a dx fs,x=.ref a∧H1 a=some (.ins C dx fs)∧fs.lookup m=none ∧
 t σ H1 fun vs H2=>sp (x::(vs++dvs)) H2 Q E
def zkw (C:Addr) (sp:Sp) (dvs:List V) (E:XK) (t:TA):TE:=fun σ H Q=>t σ H fun vs H1=>∀ x dx,H1 x=none→H1 dx=none→dx≠x →
 sp (.ref x::(vs++dvs)) (upd (upd H1 dx (.own x)) x (.ins C dx [])) (fun v H2=>v=.non∧Q (.ref x) H2) E
def Binds (K:PySem.W.Frag) (fd:FuncData) (ps:List Str) (ds:List Value):Prop :=
 ∀ (s:Shared) (us:List Value),K.In s.heap→(us++ds).length=ps.length→BindsTo s fd ⟨us,[]⟩ (ps.zip (us++ds))
theorem Binds.all {K:PySem.W.Frag} {fd:FuncData} {ps:List Str} (h:∀ us:List Value,us.length=ps.length→bindArgs fd ⟨us,[]⟩=pure (ps.zip us)):Binds K fd ps []:=fun s us _ hl=>by
 rw [List.append_nil] at hl ⊢;exact .of_eq (h us hl)
def zc9 (CX:CXT) (X:Cx) (E:XK):Prop:=∀ (pins:List (Addr×Obj)) (σ:St) (H:Hp) (s:Shared) (e:Value) (s':Shared),Inv X pins σ H s→CX X.stack H s E e s'→X.xe e s'
section
variable {X:Cx} {CX:CXT} {k:Nat} {f C:Addr} {fd:FuncData} {ps:List Str} {sp:Sp} {dvs:List V} {ds:List Value} {E:XK} {x m:Str} {p pos apos:Pos} {e o:Expr} {es:List Expr} {ta:TE} {t:TA}
theorem zhl {pins:List (Addr×Obj)} {σ:St} {H:Hp} {s:Shared} {Q:VK} {us:List Value} {vs:List V} (F:FnOk X.prog X.w X.K X.mg X.base CX k f fd ps sp) (hr:Room k X.A) (hb:Binds X.K fd ps ds) (hd:Vals dvs ds) (hx:zc9 CX X E)
  (I:Inv X pins σ H s) (r:Vals vs us) (h:sp (vs++dvs) H Q E):wpAny (model X.prog X.w) X.A (call (.ref f) us) (EP X pins σ Q) X.xe s:=by
 have r2:Vals (vs++dvs) (us++ds):=r.append hd;have hl:(us++ds).length=ps.length:=by rw [← r2.length];exact F.len _ _ _ _ h
 refine wpAny_call (codeAny_mono (F.run X.A X.stack s H ⟨us,[]⟩ (us++ds) (vs++dvs) Q E hr I.env0 (hb s us I.kIn hl) r2 h) fun r s' hq=>?_)
 cases r with
 | error e=>exact hx pins σ H s e s' I hq
 | ok fl =>
   cases fl with
   | ret u=>exact I.after hq
   | next=>exact False.elim hq
   | brk=>exact False.elim hq
   | cont=>exact False.elim hq
theorem zan (F:FnOk X.prog X.w X.K X.mg X.base CX k f fd ps sp) (hr:Room k X.A) (hg:Gl X x) (hm:X.mg x=some (.ref f)) (hk:PySem.W.keepIn X.K (.ref f)=true) (hb:Binds X.K fd ps ds) (hd:Vals dvs ds) (hx:zc9 CX X E)
  (ha:PA X (e::es) t) (hdb:(x == ("__debug__" : Str))=false:=by decide) (he:starEach (e::es) X.env=(false,eval e X.env)::starEach es X.env:=by rfl) (hpl:(backTo pos (starEach es X.env)).any (·.1)=false:=by rfl) :
  PE X (.Call (.Name x p) (e::es) [] pos) (ziw sp dvs E t):=by
 intro pins s σ H Q I h;refine wpAny_Call_Name_kw (zc0 I hg hm ?_ hdb);refine PySem.W.callWith_K (h₀:=X.base) I.ok.mod.kin hk (thn (ha pos pins s σ H _ I h) fun us s1 ⟨vs,H1,I1,r,q⟩=>⟨I1.kIn,?_⟩) he hpl;exact zhl F hr hb hd hx I1 r q
theorem zb9 {pl:Sem Bool} (he:PE X o ta) (c:Cls X.K C) (hm:Meth X.K C m f) (F:FnOk X.prog X.w X.K X.mg X.base CX k f fd ps sp) (hr:Room k X.A) (hb:Binds X.K fd ps ds) (hd:Vals dvs ds) (hx:zc9 CX X E) (ha:PA X (e::es) t)
  (hst:starEach (e::es) X.env=(false,eval e X.env)::starEach es X.env:=by rfl) (hpl:(backTo pos (starEach es X.env)).any (·.1)=false:=by rfl)
  (ht:eval (.Call (.Attribute o m apos) (e::es) [] pos) X.env=(do
   let ov ← eval o X.env
   standAt apos.atName
   let (f,first) ← holding [ov] (getMethod ov m pl)
   callWith pos f first (backTo pos (starEach (e::es) X.env)) (backToKw pos (keywordEach [] X.env))):=by rfl) :
  PE X (.Call (.Attribute o m apos) (e::es) [] pos) (zjz C m sp dvs E ta t):=by
 intro pins s σ H Q I h;refine PySem.W.methodCall_KW (pl:=pl) (thn (he pins s σ H _ I h) fun u s1 ⟨x,H1,I1,rx,a,dx,fs,ex,ea,l,q⟩=>?_) ht;subst ex;obtain rfl:u=Value.ref a:=rx;refine zef I1 ea c hm l ?_;refine PySem.W.callWith_K (first:=[.ref a]) (h₀:=X.base) I.ok.mod.kin hm.kp (thn (ha pos pins s1 σ H1 _ I1 q) fun us s2 ⟨vs,H2,I2,r,q2⟩=>⟨I2.kIn,?_⟩) hst hpl;exact zhl (us:=.ref a::us) (vs:=.ref a::vs) F hr hb hd hx I2 (.cons rfl r) q2
theorem zbg {pl:Sem Bool} (he:PE X o ta) (c:Cls X.K C) (hm:Meth X.K C m f) (F:FnOk X.prog X.w X.K X.mg X.base CX k f fd ps sp) (hr:Room k X.A) (hb:Binds X.K fd ps ds) (hd:Vals dvs ds) (hx:zc9 CX X E)
  (ht:eval (.Call (.Attribute o m apos) [] [] pos) X.env=(do
   let ov ← eval o X.env
   standAt apos.atName
   let (f,first) ← holding [ov] (getMethod ov m pl)
   callWith pos f first (backTo pos (starEach [] X.env)) (backToKw pos (keywordEach [] X.env))):=by rfl) :
  PE X (.Call (.Attribute o m apos) [] [] pos) (zjz C m sp dvs E ta tNil):=by
 intro pins s σ H Q I h;refine PySem.W.methodCall_KW (pl:=pl) (thn (he pins s σ H _ I h) fun u s1 ⟨x,H1,I1,rx,a,dx,fs,ex,ea,l,q⟩=>?_) ht;subst ex;obtain rfl:u=Value.ref a:=rx;refine zef I1 ea c hm l ?_;exact PySem.W.callWith_K0 (first:=[.ref a]) I1.kIn hm.kp (zhl (us:=[.ref a]) (vs:=[.ref a]) F hr hb hd hx I1 (.cons rfl .nil) q)
structure Mk (K:PySem.W.Frag) (C f:Addr):Prop where
 makes:PySem.W.makesIn K C=true
 init:PySem.W.findIn K (.ref C) "__init__" = some (some (.ref f))
 fn:PySem.W.isFn K (.ref f)=true
 kp:PySem.W.keepIn K (.ref C)=true
theorem zix {pins:List (Addr×Obj)} {σ:St} {H:Hp} {s:Shared} {Q:VK} {us:List Value} {vs:List V} (M:Mk X.K C f) (F:FnOk X.prog X.w X.K X.mg X.base CX k f fd ps sp) (hr:Room (k+1) X.A) (hb:Binds X.K fd ps ds) (hd:Vals dvs ds)
  (hx:zc9 CX X E) (I:Inv X pins σ H s) (r:Vals vs us)
  (h:∀ x dx,H x=none→H dx=none→dx≠x→sp (.ref x::(vs++dvs)) (upd (upd H dx (.own x)) x (.ins C dx [])) (fun v H2=>v=.non∧Q (.ref x) H2) E) :
  wpAny (model X.prog X.w) X.A (call (.ref C) us) (EP X pins σ Q) X.xe s:=by
 have hq:=h (s.heap.objs.size+1) s.heap.objs.size (I.hok.fresh (Nat.le_succ _)) (I.hok.fresh (Nat.le_refl _)) (Nat.ne_of_lt (Nat.lt_succ_self _));have I2:=Inv.made (C:=C) I;have r2:Vals (V.ref (s.heap.objs.size+1)::(vs++dvs)) (Value.ref (s.heap.objs.size+1)::(us++ds)):=.cons rfl (r.append hd);have hl:(Value.ref (s.heap.objs.size+1)::us++ds).length=ps.length:=by
  have e:=r2.length;rw [F.len _ _ _ _ hq] at e;exact e.symm
 refine wpAny_call (ziv (f:=f) I.kIn M.makes M.init (beq_iff_eq.mp M.fn) (codeAny_mono (F.run _ X.stack _ _ ⟨Value.ref (s.heap.objs.size+1)::us,[]⟩ (Value.ref (s.heap.objs.size+1)::(us++ds)) _ _ E (hr.make C us [])
  (I2.env0.make C us []) (hb _ (Value.ref (s.heap.objs.size+1)::us) I2.kIn hl) r2 hq) fun r s' hq'=>?_))
 cases r with
 | error e=>exact hx pins σ _ _ e s' I2 hq'
 | ok fl =>
   cases fl with
   | ret u =>
     obtain ⟨v,H',I3,rv,ev,q3⟩:=I2.after hq';subst ev;exact ⟨rv,⟨V.ref (s.heap.objs.size+1),H',I3,rfl,q3⟩⟩
   | next=>exact False.elim hq'
   | brk=>exact False.elim hq'
   | cont=>exact False.elim hq'
theorem ziy (M:Mk X.K C f) (F:FnOk X.prog X.w X.K X.mg X.base CX k f fd ps sp) (hr:Room (k+1) X.A) (hg:Gl X x) (hm:X.mg x=some (.ref C)) (hb:Binds X.K fd ps ds) (hd:Vals dvs ds) (hx:zc9 CX X E)
  (hdb:(x == ("__debug__" : Str))=false:=by decide):PE X (.Call (.Name x p) [] [] pos) (zkw C sp dvs E tNil):=by
 intro pins s σ H Q I h;refine wpAny_Call_Name_kw (zc0 I hg hm ?_ hdb);exact PySem.W.callWith_K0 I.kIn M.kp (zix (us:=[]) M F hr hb hd hx I .nil h)
end
def PK (X:Cx) (kws:List Keyword) (t:TA):Prop :=
 ∀ (pos:Pos) (pins:List (Addr×Obj)) (s:Shared) (σ:St) (H:Hp) (Q:List V→Hp→Prop),Inv X pins σ H s→t σ H Q→wpAny (model X.prog X.w) X.A (evalAll ((backToKw pos (keywordEach kws X.env)).map (·.2))) (AP X pins σ Q) X.xe s
section
variable {X:Cx} {CX:CXT} {k:Nat} {f C:Addr} {fd:FuncData} {ps ks:List Str} {sp:Sp} {E:XK} {x m:Str} {p pos apos kpos:Pos} {e o:Expr} {es:List Expr} {kws:List Keyword} {te ta:TE} {t tk:TA} {nm:Option Str}
theorem pk_nil:PK X [] tNil:=fun _ _ _ _ H Q I h=>wpAny_evalAll_nil ⟨[],H,I,.nil,h⟩
theorem zhm (ha:PE X e te) (hr:PK X kws t):PK X (⟨nm,e,kpos⟩::kws) (zhk te t):=by
 intro pos pins s σ H Q I h;show wpAny _ _ (evalAll ((do let v ← eval e X.env;standAt pos;pure v)::(backToKw pos (keywordEach kws X.env)).map (·.2))) _ _ s;refine wpAny_evalAll_cons (wpAny_bind (thn (ha pins s σ H _ I h) fun u s1 ⟨x,H1,I1,r1,q1⟩=>wpAny_bind (wpAny_standAt (wpAny_pure ?_))));exact thn (hr pos pins s1 σ H1 _ I1 q1) fun us s2 ⟨xs,H2,I2,r2,q2⟩=>⟨x::xs,H2,I2,.cons r1 r2,q2⟩
variable {g:List Value→List Value→List Value} {gV:List V→List V→List V}
end
structure zak (N P:List Str) (sc:Scope):Prop where
 kind:sc.kind=.function
 co:sc.isCoroutine=false
 gen:sc.isGenerator=false
 nd:N.Nodup
 pre:N.take P.length=P
 par:∀ x∈P,sc.names.lookup x=some .local∨sc.names.lookup x=some .cell
 nofree:∀ y∈sc.names,y.2≠.free
theorem zeY {kindOf:Str→Option NameKind} {x:Str}:∀ {binds:List (Str×Value)} {m:Str→Option Value},(∀ v,(x,v)∉binds)→bindL kindOf binds m x=m x
 | [],_,_=>rfl
 | (n,v)::r,m,h=>by
  unfold bindL;rw [zeY fun w hw=>h w (List.mem_cons_of_mem _ hw)];split
  ·have:x≠n:=by rintro rfl;exact h v List.mem_cons_self
   simp [this]
  ·rfl
theorem zeZ {kindOf:Str→Option NameKind} {x:Str}:∀ {binds:List (Str×Value)} {m:Str→Option Value},(∀ v,(x,v)∉binds)→bindC kindOf binds m x=m x
 | [],_,_=>rfl
 | (n,v)::r,m,h=>by
  unfold bindC;rw [zeZ fun w hw=>h w (List.mem_cons_of_mem _ hw)];split
  ·rfl
  ·have:x≠n:=by rintro rfl;exact h v List.mem_cons_self
   simp [this]
theorem ze0 {kindOf:Str→Option NameKind} {x:Str} {v:Value}:∀ {P:List Str} {vs:List Value} {i:Nat} {m:Str→Option Value},P.Nodup→P[i]? = some x→vs[i]? = some v→kindOf x=some .local →
  bindL kindOf (P.zip vs) m x=some v
 | [],_,_,_,_,h,_,_=>by simp at h
 | _::_,[],_,_,_,_,h,_=>by simp at h
 | p::P,w::vs,0,m,nd,h1,h2,hk=>by
   simp at h1 h2;subst h1;subst h2;show bindL kindOf ((p,w)::P.zip vs) m p=_;unfold bindL;rw [zeY fun v hv=>(List.nodup_cons.mp nd).1 (List.of_mem_zip hv).1,if_pos hk];simp
 | p::P,w::vs,i+1,m,nd,h1,h2,hk=>by
   show bindL kindOf ((p,w)::P.zip vs) m x=_;unfold bindL;exact ze0 (i:=i) (List.nodup_cons.mp nd).2 (by simpa using h1) (by simpa using h2) hk
theorem ze1 {kindOf:Str→Option NameKind} {x:Str} {v:Value}:∀ {P:List Str} {vs:List Value} {i:Nat} {m:Str→Option Value},P.Nodup→P[i]? = some x→vs[i]? = some v→kindOf x≠some .local →
  bindC kindOf (P.zip vs) m x=some v
 | [],_,_,_,_,h,_,_=>by simp at h
 | _::_,[],_,_,_,_,h,_=>by simp at h
 | p::P,w::vs,0,m,nd,h1,h2,hk=>by
   simp at h1 h2;subst h1;subst h2;show bindC kindOf ((p,w)::P.zip vs) m p=_;unfold bindC;rw [zeZ fun v hv=>(List.nodup_cons.mp nd).1 (List.of_mem_zip hv).1,if_neg hk];simp
 | p::P,w::vs,i+1,m,nd,h1,h2,hk=>by
   show bindC kindOf ((p,w)::P.zip vs) m x=_;unfold bindC;exact ze1 (i:=i) (List.nodup_cons.mp nd).2 (by simpa using h1) (by simpa using h2) hk
def start (N:List Str) (vs:List V):St:=vs.map some++List.replicate (N.length-vs.length) none
def cxOf (CX:CXT) (P:Program) (w:World) (K:PySem.W.Frag) (mg:Str→Option Value) (base:Heap) (N:List Str) (qual:Str) (scope:Scope) (f:Addr) (cd:Value) (A:Around) (outer:List Env) (s:Shared) (H:Hp) (E:XK):Cx where
 prog:=P
 w:=w
 K:=K
 mg:=mg
 base:=base
 A:=A.deeper (envOfC qual scope s.heap.objs.size f cd)
 N:=N
 s₀:=s
 H₀:=H
 env:=envOfC qual scope s.heap.objs.size f cd
 outer:=outer
 stack:=envOfC qual scope s.heap.objs.size f cd::outer
 ex:=[]
 calm:=true
 fn:=fun _=>true
 pn:=[]
 xe:=fun e s'=>wpAny (model P w) (A.deeper (envOfC qual scope s.heap.objs.size f cd)) (leaving (envOfC qual scope s.heap.objs.size f cd) e) (fun _ s''=>CX outer H s E e s'') (fun e' s''=>CX outer H s E e' s'') s'
theorem zgg {sc:Scope} {n:Nat} {x:Str} (h:sc.names.lookup x=some .cell):∃ c,(cellsFrom n sc.names []).lookup x=some c:=by
 have q:=PySem.W.cellsFrom_some sc.names n [] (.inl h);exact Option.isSome_iff_exists.mp q
theorem zhn {CX:CXT} {P:Program} {w:World} {K:PySem.W.Frag} {mg:Str→Option Value} {base:Heap} {N ps:List Str} {qual:Str} {scope:Scope} {f:Addr} {cd:Value} {A:Around} {outer:List Env} {s s1:Shared} {H:Hp} {E:XK} {us:List Value} {vs:List V}
  (S:zak N ps scope) (hd:A.handled=none) (e0:Env0 P w K mg base A outer s H) (hl:vs.length=ps.length) (r:Vals vs us)
  (x:InCallC s s.heap.objs.size (bindL (envOfC qual scope s.heap.objs.size f cd).kindOf (ps.zip us) fun _=>none) (cellsFrom (s.heap.objs.size+1) scope.names []) (bindC (envOfC qual scope s.heap.objs.size f cd).kindOf (ps.zip us) fun _=>none) s1) :
  Inv (cxOf CX P w K mg base N qual scope f cd A outer s H E) [] (start N vs) H s1:=by
 have hpl:ps.length≤N.length:=by have:=congrArg List.length S.pre;rw [List.length_take] at this;omega
 obtain ⟨h1,tk,rfl,hk⟩:=x.done;have noA:∀ b:Addr,b∉(cxOf CX P w K mg base N qual scope f cd A outer s H E).ex:=fun b z=>absurd (show b∈([]:List Addr) from z) (by simp);refine ⟨⟨e0.mod,S.kind,rfl,rfl,Nat.le_refl _,fun y z c h1 h2=>?_,fun y hy=>?_,fun y c _ h=>?_,fun _=>hd,Around.frames_deeper e0.frames,.inr ⟨rfl,rfl⟩,fun b z=>absurd z (noA b),e0.bs,e0.bsz,fun b _ _=>noA b,fun b z=>absurd z (noA b),e0.funs,e0.frf⟩,
  rfl,e0.bare,Un.kept hk,⟨_,x.toInCall.ns,fun i y v h1 h2 h3=>?_⟩,fun y c h=>⟨_,x.cell y c h⟩,e0.hok.fresh (Nat.le_refl _),fun y c h=>?_,fun p hp=>absurd (show p∈([]:List (Addr×Obj)) from hp) (by simp),e0.hok.kept hk,?_⟩
 ·exact name_of_addr x.apart (PySem.mem_of_lookup h1) (PySem.mem_of_lookup h2)
 ·have hy:scope.names.lookup y=some .cell∨scope.names.lookup y=some .free:=hy;rcases hy with hy | hy
  ·exact zgg hy
  ·exact absurd rfl (S.nofree _ (PySem.mem_of_lookup hy))
 ·exact Nat.le_of_lt (x.above y c (PySem.mem_of_lookup h))
 ·have hi:i < vs.length:=by
   unfold start at h2
   by_cases hi:i < vs.length
   ·exact hi
   ·rw [List.getElem?_append_right (by simpa using hi)] at h2;rw [List.getElem?_replicate] at h2;split at h2 <;> cases h2
  have ha:vs[i]? = some v:=by
   unfold start at h2;rw [List.getElem?_append_left (by simpa using hi),List.getElem?_map] at h2
   cases e:vs[i]? with
   | none=>rw [e] at h2;cases h2
   | some a=>rw [e] at h2;cases h2;rfl
  obtain ⟨u,hu,rv⟩:=r.get ha;have hp:ps[i]? = some y:=by
   rw [← S.pre,List.getElem?_take_of_lt (by omega)];exact h1
  have ndP:ps.Nodup:=by rw [← S.pre];exact S.nd.sublist (List.take_sublist _ _)
  refine ⟨u,rv,?_⟩;rcases S.par y (List.mem_of_getElem? hp) with k | k
  ·exact .inl ⟨k,ze0 ndP hp hu k⟩
  ·obtain ⟨c,e⟩:=zgg (n:=s.heap.objs.size+1) k;refine .inr ⟨.inl k,c,e,?_⟩;have q:=x.cell y c e;rw [ze1 ndP hp hu (by show scope.names.lookup y≠_;rw [k];decide)] at q;exact q
 ·exact e0.hok.fresh (Nat.le_of_lt (x.above y c (PySem.mem_of_lookup h)))
 ·unfold start;show _=N.length;rw [List.length_append,List.length_map,List.length_replicate];omega
theorem zkx {CX:CXT} {P:Program} {w:World} {K:PySem.W.Frag} {mg:Str→Option Value} {base:Heap} {k:Nat} {f:Addr} {name qual:Str} {params:Arguments} {body:List Stmt} {scope:Scope} {dV kV doc pm cdv ct oc:Value} {an od:Option Addr}
  {osl:Array (Option Value)} {N ps:List Str} {sp:Sp} (lk:K.lookup f=some ⟨oc,od,.func (PySem.W.fnOf name qual params body scope dV kV doc pm an cdv ct),osl⟩) (hcd:PySem.W.codeIn K cdv qual=true) (S:zak N ps scope)
  (len:∀ vs H Q E,sp vs H Q E→vs.length=ps.length)
  (hbody:∀ (A:Around) (outer:List Env) (s:Shared) (H:Hp) (vs:List V) (Q:VK) (E:XK),Room k (A.deeper (envOfC qual scope s.heap.objs.size f cdv))→sp vs H Q E →
   ∃ t,PSs (cxOf CX P w K mg base N qual scope f cdv A outer s H E) body t∧t { nx:=fun _ H'=>Q .non H',rt:=Q } (start N vs) H) :
  FnOk P w K mg base CX (k+1) f (PySem.W.fnOf name qual params body scope dV kV doc pm an cdv ct) ps sp:=by
 refine ⟨len,fun A outer s H args us vs Q E hr e0 hb r hsp=>?_⟩;have hl:=len _ _ _ _ hsp;have KX:K.In s.heap:=e0.mod.kin.keeps fun b o e=>(e0.bs b o e).1;have lim:s.heap.NoLimit:=e0.mod.nolimit.keeps fun b o e=>(e0.bs b o e).1;have hkind:∀ y∈ps.zip us,scope.names.lookup y.1=some .local∨(scope.names.lookup y.1=some .cell∧((cellsFrom (s.heap.objs.size+1) scope.names []).lookup y.1).isSome=true):=fun ⟨n,v⟩ hy=>by
  rcases S.par n (List.of_mem_zip hy).1 with q | q
  ·exact .inl q
  ·exact .inr ⟨q,PySem.W.cellsFrom_some _ _ _ (.inl q)⟩
 refine codeAny_call_function hr.depth (KX _ _ lk) rfl S.co S.gen rfl (PySem.W.codeRec_of KX hcd) (hb _ _ _ _ ?_);refine wpAny_newFunctionEnv_cells S.kind hkind fun env he s1 x=>?_;subst he;refine ⟨lim.keeps x.toInCall.keep,codeAny_func ?_⟩;obtain ⟨t,ht,hq⟩:=hbody A outer s H vs Q E (hr.deeper _) hsp;have I:Inv (cxOf CX P w K mg base N qual scope f cdv A outer s H E) [] (start N vs) H s1:=zhn S hr.hd e0 hl r x;refine wpAny_mono (ht [] s1 (start N vs) H _ I hq) (fun fl s' hs=>?_) fun e s' hs=>hs;have fin:∀ {σ':St} {H':Hp} {v:V} {u:Value},Inv (cxOf CX P w K mg base N qual scope f cdv A outer s H E) [] σ' H' s'→RelV v u→Q v H'→CE outer P w H s Q u s' :=
  fun {σ' H' v u} J rv q=>⟨v,H',J.os,J.bare,J.base,J.hok,rv,q⟩
 cases fl with
 | ret u =>
   obtain ⟨v,σ',H',J,rv,q⟩:=hs;exact fin J rv q
 | next =>
   obtain ⟨σ',H',J,q⟩:=hs;exact fin (v:=V.non) (u:=Value.none) J rfl q
 | brk =>
   obtain ⟨_,_,_,q⟩:=hs;exact False.elim q
 | cont =>
   obtain ⟨_,_,_,q⟩:=hs;exact False.elim q
end L2
namespace L2
open PySem PySem.Spec PyProof.Rows
section
variable {X:Cx} {x:Str} {p pos:Pos} {e:Expr} {es:List Expr} {t:TA} {id T:String} {r:List V→Hp→VK→Prop}
def tCB (r:List V→Hp→VK→Prop) (t:TA):TE:=fun σ H Q=>t σ H fun vs H1=>r vs H1 Q
theorem zar (hc:zck X (.builtin id) r) (hg:Gl X x) (hm:X.mg x=none) (hv:bootBuiltins x=some (.builtin id)) (ha:PA X (e::es) t) (hn:x≠"__name__":=by decide) (hdb:(x == ("__debug__" : Str))=false:=by decide)
  (he:starEach (e::es) X.env=(false,eval e X.env)::starEach es X.env:=by rfl) (hpl:(backTo pos (starEach es X.env)).any (·.1)=false:=by rfl):PE X (.Call (.Name x p) (e::es) [] pos) (tCB r t):=by
 intro pins s σ H Q I h;refine wpAny_Call_Name_kw (zc8 I hg hm hv ?_ hn hdb);exact PyProof.Rows.callWith_builtin1 (thn (ha pos pins s σ H _ I h) fun us s1 ⟨vs,H1,I1,r1,q1⟩=>hc pins s1 σ H1 vs us Q I1 r1 q1) he hpl
theorem zaG (hc:zck X (.type T) r) (hg:Gl X x) (hm:X.mg x=none) (hv:bootBuiltins x=some (.type T)) (ha:PA X (e::es) t) (hn:x≠"__name__":=by decide) (hdb:(x == ("__debug__" : Str))=false:=by decide)
  (he:starEach (e::es) X.env=(false,eval e X.env)::starEach es X.env:=by rfl) (hpl:(backTo pos (starEach es X.env)).any (·.1)=false:=by rfl):PE X (.Call (.Name x p) (e::es) [] pos) (tCB r t):=by
 intro pins s σ H Q I h;refine wpAny_Call_Name_kw (zc8 I hg hm hv ?_ hn hdb);exact PyProof.Rows.callWith_type1 (thn (ha pos pins s σ H _ I h) fun us s1 ⟨vs,H1,I1,r1,q1⟩=>hc pins s1 σ H1 vs us Q I1 r1 q1) he hpl
end
end L2
namespace HT
open PySem PyProof.Rows
section
open PySem.SeqAt
open PySem.AutoSeq1 (wpAny_loadPart')
open PySem.MeetsSeq PySem.MeetsSeq2 PySem.MeetsSeq3
end
section
variable {prog:Program} {w:World} {A:Around} {E:Value→Shared→Prop} {s:Shared}
def sIx (n d:Nat):Option Int→Nat
 | none=>d
 | some v=>if v < 0 then (v+(n:Int)).toNat else min v.toNat n
theorem sIx_none (n d:Nat):sIx n d none=d:=rfl
theorem sIx_nat (n d k:Nat):sIx n d (some (k:Int))=min k n:=by
 show (if (k:Int) < 0 then ((k:Int)+(n:Int)).toNat else min (k:Int).toNat n)=min k n;rw [if_neg (by omega),Int.toNat_natCast]
end
end HT
namespace L2
open PySem PySem.Spec PyProof.Rows
abbrev TO:=St→Hp→(Option Int→Hp→Prop)→Prop
def PO (X:Cx) (e:Option Expr) (t:TO):Prop :=
 ∀ (pins:List (Addr×Obj)) (s:Shared) (σ:St) (H:Hp) (Q:Option Int→Hp→Prop),Inv X pins σ H s→t σ H Q →
  wpAny (model X.prog X.w) X.A (evalPart e X.env) (fun u s'=>∃ o H',Inv X pins σ H' s'∧IsPart u o∧Q o H') X.xe s
def tNoPart:TO:=fun _ H Q=>Q none H
def zky (t:TE):TO:=fun σ H Q=>t σ H fun x H1=>∃ i,x=.int i∧Q (some i) H1
theorem intsAre_of {ns:List Int}:∀ {us:List Value},Vals (ns.map V.int) us→IntsAre us ns:=by
 induction ns with
 | nil=>intro us r;rw [List.map_nil] at r;cases r;exact .nil
 | cons n ns ih =>
   intro us r;rw [List.map_cons] at r
   cases r with
   | cons r1 r2 =>
     obtain ⟨t,e⟩:=r1;subst e;exact .cons n t (ih r2)
section
variable {X:Cx} {e:Expr} {te:TE} {lo hi:Option Expr} {tl th:TO} {pos p2:Pos}
theorem po_none:PO X none tNoPart:=by
 intro pins s σ H Q I h;rw [evalPart_none];exact wpAny_pure ⟨none,H,I,.none,h⟩
theorem zc1 (h:PE X e te):PO X (some e) (zky te):=by
 intro pins s σ H Q I hw;rw [evalPart_some];refine thn (h pins s σ H _ I hw) fun u s1 ⟨x,H1,I1,r1,q1⟩=>?_;obtain ⟨i,rfl,q⟩:=q1;obtain ⟨t,rfl⟩:=r1;exact ⟨some i,H1,I1,.int i t,q⟩
def SlR (X:Cx) (r:V→Option Int→Option Int→Hp→VK→Prop):Prop :=
 ∀ (pins:List (Addr×Obj)) (s:Shared) (σ:St) (H:Hp) (x:V) (v vl vu:Value) (lo hi:Option Int) (sl:Addr) (Q:VK),Inv X pins σ H s→RelV x v→s.heap.IsSliceOf sl vl vu .none→IsPart vl lo→IsPart vu hi→r x lo hi H Q →
  ∃ T id,typeLookup (.type T) "__getitem__" = pure (some (.builtin id))∧s.TypeIs v T∧wpAny (model X.prog X.w) X.A (getItem v (.ref sl)) (EP X pins σ Q) X.xe s
def tSl (r:V→Option Int→Option Int→Hp→VK→Prop) (te:TE) (tl th:TO):TE:=fun σ H Q=>te σ H fun x H1=>tl σ H1 fun l H2=>th σ H2 fun u H3=>r x l u H3 Q
theorem zcf {r:V→Option Int→Option Int→Hp→VK→Prop} (hr:SlR X r) (he:PE X e te) (hl:PO X lo tl) (hu:PO X hi th):PE X (.Subscript e (.Slice lo hi none p2) pos) (tSl r te tl th):=by
 intro pins s σ H Q I h;refine Subscript_ (thn (he pins s σ H _ I h) fun v s1 ⟨x,H1,I1,r1,q1⟩=>?_);refine wpAny_Slice (thn (hl pins s1 σ H1 _ I1 q1) fun vl s2 ⟨l,H2,I2,pl,q2⟩=>thn (hu pins s2 σ H2 _ I2 q2) fun vu s3 ⟨u,H3,I3,pu,q3⟩=>?_);rw [evalPart_none];refine wpAny_pure ?_;have I4:Inv X pins σ H3 { s3 with heap:=s3.heap.push { cls:=.type "slice",data:=.fields #[vl,vu,.none] } }:=I3.kept (t':=s3.toks) fun b ob q=>Heap.get?_push_of_some _ q;obtain ⟨T,id,hT,ht,hg⟩:=hr pins { s3 with heap:=s3.heap.push { cls:=.type "slice",data:=.fields #[vl,vu,.none] } } σ H3 x v vl vu l u s3.heap.objs.size Q I4 r1 (Heap.IsSliceOf.new ..) pl pu q3;show wpAny (model X.prog X.w) X.A (subscriptTail e (.Slice lo hi none p2) v (.ref s3.heap.objs.size)) (EP X pins σ Q) X.xe { s3 with heap:=s3.heap.push { cls:=.type "slice",data:=.fields #[vl,vu,.none] } };exact tail_any (ops:=[.ref s3.heap.objs.size,v]) ht hT hg (by with_unfolding_all rfl)
def cutV (xs:List V) (lo hi:Option Int):List V:=(xs.drop (HT.sIx xs.length 0 lo)).take (HT.sIx xs.length xs.length hi-HT.sIx xs.length 0 lo)
theorem zfI (xs:List V) (lo hi:Option Int):(cutV xs lo hi).length≤xs.length:=by
 unfold cutV;rw [List.length_take,List.length_drop];omega
end
end L2
namespace L2
open PySem PySem.Spec PyProof.Rows
def ixN (n:Nat) (i:Int):Option Nat:=if 0≤i then (if i < n then some i.toNat else none) else if -(n:Int)≤i then some (i+n).toNat else none
def atI {α:Type} (xs:List α) (i:Int):Option α:=(ixN xs.length i).bind fun j=>xs[j]?
theorem zjA {n:Nat} {i:Int} {j:Nat} (h:ixN n i=some j):seqIndex? i n=some j∧j < n∧-(n:Int)≤i∧i < n:=by
 unfold ixN at h
 by_cases h0:0≤i
 ·rw [if_pos h0] at h
  by_cases h1:i < n
  ·rw [if_pos h1] at h;have e:i.toNat=j:=Option.some.inj h;exact ⟨by rw [seqIndex_of h0 h1,e],by omega,by omega,h1⟩
  ·rw [if_neg h1] at h;cases h
 ·rw [if_neg h0] at h
  by_cases h1 : -(n:Int)≤i
  ·rw [if_pos h1] at h;have e:(i+n).toNat=j:=Option.some.inj h;exact ⟨by rw [seqIndex_neg (by omega) h1,e],by omega,h1,by omega⟩
  ·rw [if_neg h1] at h;cases h
theorem zjB {α:Type} {xs:List α} {i:Int} {v:α} (h:atI xs i=some v):∃ j,seqIndex? i xs.length=some j∧xs[j]? = some v∧j < xs.length∧-(xs.length:Int)≤i∧i < xs.length:=by
 unfold atI at h
 cases e:ixN xs.length i with
 | none=>rw [e] at h;cases h
 | some j =>
   rw [e] at h;obtain ⟨h1,h2,h3,h4⟩:=zjA e;exact ⟨j,h1,h,h2,h3,h4⟩
theorem zho {α:Type} {xs:List α} {j:Nat} {v:α} (h:xs[j]? = some v):atI xs (j:Int)=some v:=by
 have hj:j < xs.length:=(List.getElem?_eq_some_iff.mp h).1;have e:ixN xs.length (j:Int)=some j:=by
  unfold ixN;rw [if_pos (by omega),if_pos (by omega)];simp
 unfold atI;rw [e];exact h
def zjC (b:Expr):Prop:=∀ o i,subscripted b false o i=operate [o,i] (getItem o i)
def IxR (X:Cx) (r:R2):Prop :=
 ∀ (value slice:Expr) (pins:List (Addr×Obj)) (s:Shared) (σ:St) (H:Hp) (x y:V) (v u:Value) (Q:VK),Inv X pins σ H s→RelV x v→RelV y u→r x y H Q →
  subscripted slice false v u=operate [v,u] (getItem v u)→wpAny (model X.prog X.w) X.A (subscriptTail value slice v u) (EP X pins σ Q) X.xe s
def MtR (X:Cx) (id:String) (r:V→List V→Hp→VK→Prop):Prop :=
 ∀ (pins:List (Addr×Obj)) (s:Shared) (σ:St) (H:Hp) (x:V) (xs:List V) (v:Value) (us:List Value) (Q:VK),Inv X pins σ H s→RelV x v→Vals xs us→r x xs H Q →
  wpAny (model X.prog X.w) X.A (call (.builtin id) (v::us)) (EP X pins σ Q) X.xe s
section
variable {X:Cx} {a b:Expr} {ta tb:TE} {pos:Pos}
theorem zaD {r:R2} (hr:IxR X r) (ha:PE X a ta) (hb:PE X b tb) (hs:zjC b):PE X (.Subscript a b pos) (tOp r ta tb):=by
 intro pins s σ H Q I h;exact Subscript_ (binT ha hb I h fun v u s2 x y H2 I2 rx ry q=>hr a b pins s2 σ H2 x y v u Q I2 rx ry q (hs _ _))
def rIxL (K:PySem.W.Frag):R2:=fun x y H Q=>∃ p xs i v,x=.ref p∧y=.int i∧SqL K H p xs∧atI xs i=some v∧Q v H
theorem ix_list:IxR X (rIxL X.K):=by
 intro value slice pins s σ H x y v u Q I rx ry h hs;obtain ⟨p,xs,i,z,rfl,rfl,hq,he,q⟩:=h
 cases rx
 obtain ⟨t,rfl⟩:=ry;obtain ⟨its,r,pl,hz⟩:=I.list hq;obtain ⟨j,h1,h2,h3,h4,h5⟩:=zjB he;obtain ⟨w,ew,rw'⟩:=r.get h2;have hl:=r.length;have hn:=line63;have fin:EP X pins σ Q w s:=⟨z,H,I,rw',q⟩
 by_cases h0:0≤i
 ·have hj:i.toNat=j:=by
   rw [seqIndex_of h0 h5] at h1;exact Option.some.inj h1
  exact item_listR pl.isList h0 (by omega) (by rw [hj];simpa using ew) fin hs
 ·have hj:(i+(its.toArray.size:Int)).toNat=j:=by
   rw [seqIndex_neg (by omega) h4] at h1;rw [List.size_toArray,← hl];exact Option.some.inj h1
  exact subscriptTail_builtinR (x:=w) pl.isList.typeIs slot_list_getitem.lookup
   (wpAny_getItem_list_neg (Q:=fun r s'=>r=w∧EP X pins σ Q r s') pl.isList (by omega) (by rw [List.size_toArray] <;> omega) (by omega) (by rw [hj];simpa using ew) ⟨rfl,fin⟩) hs
theorem ze2 (lo hi:Option Int) (n:Nat):(sliceBounds lo hi none n).1=((HT.sIx n 0 lo:Nat):Int)∧(sliceBounds lo hi none n).2.1=((HT.sIx n n hi:Nat):Int)∧(sliceBounds lo hi none n).2.2=1:=by
 refine ⟨?_,?_,rfl⟩
 ·cases lo with
  | none=>simp [sliceBounds,HT.sIx]
  | some i =>
    simp only [sliceBounds,HT.sIx,Option.getD_none,show (1:Int) > 0 by decide,if_true]
    by_cases h:i < 0
    ·simp only [h,if_true] <;> omega
    ·simp only [h,if_false] <;> omega
 ·cases hi with
  | none=>simp [sliceBounds,HT.sIx]
  | some i =>
    simp only [sliceBounds,HT.sIx,Option.getD_none,show (1:Int) > 0 by decide,if_true]
    by_cases h:i < 0
    ·simp only [h,if_true] <;> omega
    ·simp only [h,if_false] <;> omega
theorem zes (its:List Value) (lo hi:Option Int):slicePick its.toArray lo hi none=((its.drop (HT.sIx its.length 0 lo)).take (HT.sIx its.length its.length hi-HT.sIx its.length 0 lo)).toArray:=by
 obtain ⟨h1,h2,h3⟩:=ze2 lo hi its.toArray.size;unfold slicePick;rw [h1,h2,h3];simp only [sliceRange_one,pick_run,List.size_toArray] <;> rfl
def rSlL (K:PySem.W.Frag):V→Option Int→Option Int→Hp→VK→Prop:=fun x lo hi H Q=>∃ a xs,x=.ref a∧SqL K H a xs∧∀ p,H p=none→Q (.ref p) (upd H p (.lst (cutV xs lo hi)))
theorem sl_list:SlR X (rSlL X.K):=by
 intro pins s σ H x v vl vu lo hi sl Q I rx hs pl pu h;obtain ⟨a,xs,rfl,hx,q⟩:=h
 cases rx
 obtain ⟨its,r,ht,hz⟩:=I.list hx;have hlen:=r.length;refine ⟨"list",_,slot_list_getitem.lookup,ht.isList.typeIs,?_⟩;refine wpAny_getItem_list_slice ht.isList hs pl pu .none (by simp) ?_ (by rw [List.size_toArray] <;> omega);rw [zes,← hlen];refine ⟨.ref s.heap.objs.size,_,I.laid (t':=s.toks) (o:=.lst (cutV xs lo hi)) (fun b ob q=>Heap.get?_push_of_some _ q) (Nat.le_refl _) ?_,rfl,q _ (I.hok.fresh (Nat.le_refl _))⟩;exact ⟨Nat.le_trans (zfI xs lo hi) hz,_,0,(r.drop (HT.sIx xs.length 0 lo)).take (HT.sIx xs.length xs.length hi-HT.sIx xs.length 0 lo),Heap.get?_push_size _ rfl⟩
def flatV:V→Bool
 | .non=>true
 | .bl _=>true
 | .int _=>true
 | .str _=>true
 | _=>false
def eqV:V→V→Bool
 | .non,.non=>true
 | .bl a,.bl b=>a == b
 | .bl a,.int b=>(if a then 1 else 0) == b
 | .int a,.bl b=>a == (if b then 1 else 0)
 | .int a,.int b=>a == b
 | .str a,.str b=>a == b
 | _,_=>false
theorem zhp {A:Around} {s:Shared} {y x:V} {u v:Value} (ry:RelV y u) (rx:RelV x v) (fy:flatV y=true) (fx:flatV x=true):SeqAt.EqAt A s u v (eqV y x):=by
 cases y with
 | non =>
   cases ry
   cases x with
   | non=>cases rx;exact SeqAt.EqAt.same _
   | bl b=>cases rx;exact SeqAt.EqAt.none_bool b
   | int b=>obtain ⟨t,rfl⟩:=rx;exact SeqAt.EqAt.none_int b t
   | str b=>obtain ⟨t,rfl⟩:=rx;exact SeqAt.EqAt.none_str b t
   | _=>exact absurd (show false=true from fx) Bool.false_ne_true
 | bl a =>
   cases ry
   cases x with
   | non=>cases rx;exact SeqAt.EqAt.bool_none a
   | bl b=>cases rx;exact SeqAt.EqAt.bool_bool a b
   | int b=>obtain ⟨t,rfl⟩:=rx;exact SeqAt.EqAt.bool_int a b t
   | str b=>obtain ⟨t,rfl⟩:=rx;exact SeqAt.EqAt.bool_str a b t
   | _=>exact absurd (show false=true from fx) Bool.false_ne_true
 | int a =>
   obtain ⟨t',rfl⟩:=ry
   cases x with
   | non=>cases rx;exact SeqAt.EqAt.int_none a t'
   | bl b=>cases rx;exact SeqAt.EqAt.int_bool a t' b
   | int b=>obtain ⟨t,rfl⟩:=rx;exact SeqAt.EqAt.int_int a t' b t
   | str b=>obtain ⟨t,rfl⟩:=rx;exact SeqAt.EqAt.int_str a t' b t
   | _=>exact absurd (show false=true from fx) Bool.false_ne_true
 | str a =>
   obtain ⟨t',rfl⟩:=ry
   cases x with
   | non=>cases rx;exact SeqAt.EqAt.str_none a t'
   | bl b=>cases rx;exact SeqAt.EqAt.str_bool a t' b
   | int b=>obtain ⟨t,rfl⟩:=rx;exact SeqAt.EqAt.str_int a t' b t
   | str b=>obtain ⟨t,rfl⟩:=rx;exact SeqAt.EqAt.str_str a t' b t
   | _=>exact absurd (show false=true from fx) Bool.false_ne_true
 | _=>exact absurd (show false=true from fy) Bool.false_ne_true
def eqU (x:V) (u:Value):Bool:=match u with
 | .none=>eqV .non x
 | .bool b=>eqV (.bl b) x
 | .int i _=>eqV (.int i) x
 | .str z _=>eqV (.str z) x
 | _=>false
theorem zjb {x y:V} {u:Value} (r:RelV y u) (f:flatV y=true):eqU x u=eqV y x:=by
 cases y with
 | non=>cases r;rfl
 | bl b=>cases r;rfl
 | int i=>obtain ⟨t,rfl⟩:=r;rfl
 | str z=>obtain ⟨t,rfl⟩:=r;rfl
 | _=>exact absurd (show false=true from f) Bool.false_ne_true
theorem zfJ {x:V}:∀ {xs:List V} {us:List Value},Vals xs us→xs.all flatV=true→us.any (eqU x)=xs.any fun y=>eqV y x
 | _,_,.nil,_=>rfl
 | y::xs,u::us,.cons r t,f=>by
   rw [List.all_cons,Bool.and_eq_true] at f;rw [List.any_cons,List.any_cons,zjb r f.1,zfJ t f.2]
theorem zet {A:Around} {s:Shared} {x:V} {v:Value} (rx:RelV x v) (fx:flatV x=true):∀ {xs:List V} {us:List Value},Vals xs us→xs.all flatV=true→∀ u∈us,SeqAt.EqAt A s u v (eqU x u)
 | _,_,.nil,_=>fun u hu=>by cases hu
 | y::xs,u::us,.cons r t,f=>fun u' hu=>by
   rw [List.all_cons,Bool.and_eq_true] at f;rcases List.mem_cons.mp hu with rfl | hu
   ·rw [zjb r f.1];exact zhp r rx f.1 fx
   ·exact zet rx fx t f.2 u' hu
def inV (x:V) (xs:List V):Bool:=xs.any fun y=>eqV y x
def rIn (K:PySem.W.Frag) (neg:Bool):R2:=fun x y H Q=>∃ p xs,y=.ref p∧(SqL K H p xs∨SqT K H p xs)∧flatV x=true∧xs.all flatV=true∧Q (.bl (if neg then !inV x xs else inV x xs)) H
theorem op_in_seq:OpR X (compareOp .In) (rIn X.K false):=by
 intro pins s σ H x y v u Q I rx ry h;obtain ⟨p,xs,rfl,hq,fx,fs,q⟩:=h
 cases ry
 rcases hq with hq | hq
 ·obtain ⟨its,r,pl,hz⟩:=I.list hq;refine SeqAt.in_listAt (eqU x) pl.isList (fun w hw=>zet rx fx r fs w (by simpa using hw)) ⟨.bl _,H,I,rfl,?_⟩;rw [show its.toArray.any (eqU x)=its.any (eqU x) by simp,zfJ r fs];exact q
 ·obtain ⟨its,r,pl,hz⟩:=I.tuple hq;refine SeqAt.in_tupleAt (eqU x) pl (fun w hw=>zet rx fx r fs w (by simpa using hw)) ⟨.bl _,H,I,rfl,?_⟩;rw [show its.toArray.any (eqU x)=its.any (eqU x) by simp,zfJ r fs];exact q
theorem call_len_seq:zck X (.builtin "len") (fun xs H Q=>∃ p ys,xs=[.ref p]∧(SqL X.K H p ys∨SqT X.K H p ys)∧Q (.int ys.length) H):=by
 intro pins s σ H xs us Q I r h;obtain ⟨p,ys,rfl,hq,q⟩:=h;obtain ⟨u,rfl,rx⟩:=vals1 r
 cases rx
 have hn:=line63;rcases hq with hq | hq
 ·obtain ⟨its,r',pl,hz⟩:=I.list hq;have hlen:=r'.length;exact Calls.call_len_list pl.isList (by simp only [List.size_toArray] <;> omega) ⟨.int ys.length,H,I.tok _,⟨s.toks+1,by rw [List.size_toArray,hlen]⟩,q⟩
 ·obtain ⟨its,r',pl,hz⟩:=I.tuple hq;have hlen:=r'.length;exact len_tuple pl (by simp only [List.size_toArray] <;> omega) ⟨.int ys.length,H,I.tok _,⟨s.toks+1,by rw [List.size_toArray,hlen]⟩,q⟩
def tyV (K:PySem.W.Frag) (T:String) (x:V) (H:Hp):Prop:=match x with
 | .str _=>T = "str"
 | .int _=>T = "int"
 | .ref p=>(T = "list"∧∃ xs,SqL K H p xs)∨(T = "tuple"∧∃ o,K.lookup p=some o∧o.cls=.type "tuple"∧o.dict=none) ∨
    (T = "dict"∧((∃ kvs,H p=some (.dK kvs))∨∃ kvs,H p=some (.dT kvs)))∨(T = "set"∧∃ S n,H p=some (.set S n))
 | _=>False
theorem zkz {pins:List (Addr×Obj)} {σ:St} {H:Hp} {s:Shared} {T:String} {x:V} {v:Value} (I:Inv X pins σ H s) (r:RelV x v) (ty:tyV X.K T x H) :
  s.TypeIs v T∧∀ a,v=.ref a→∃ ob,s.heap.get? a=some ob∧ob.dict=none:=by
 cases x with
 | str z =>
   obtain ⟨t,rfl⟩:=r
   cases (show T = "str" from ty)
   exact ⟨typeIs_str s z t,fun _ e=>nomatch e⟩
 | int i =>
   obtain ⟨t,rfl⟩:=r
   cases (show T = "int" from ty)
   exact ⟨typeIs_int s i t,fun _ e=>nomatch e⟩
 | ref p =>
   cases r
   rcases ty with ⟨rfl,xs,hq⟩ | ⟨rfl,o,hk,hc,hd⟩ | ⟨rfl,hk⟩ | ⟨rfl,S,n,hk⟩
   ·obtain ⟨its,_,pl,_⟩:=I.list hq;refine ⟨pl.isList.typeIs,fun a e=>?_⟩
    cases e
    obtain ⟨o,n,e,c,hd,_⟩:=pl;exact ⟨o,e,hd⟩
   ·refine ⟨⟨o,I.kIn p o hk,hc⟩,fun a e=>?_⟩
    cases e
    exact ⟨o,I.kIn _ o hk,hd⟩
   ·have z:∃ o,s.heap.get? p=some o∧o.ExactDict:=by
     rcases hk with ⟨kvs,hk⟩ | ⟨kvs,hk⟩
     ·obtain ⟨_,_,_,_,o,_,_,e,ex,_⟩:=I.hok p _ hk;exact ⟨o,e,ex⟩
     ·obtain ⟨_,_,_,_,o,_,_,e,ex,_⟩:=I.hok p _ hk;exact ⟨o,e,ex⟩
    obtain ⟨o,e,ex⟩:=z;refine ⟨⟨o,e,ex.1⟩,fun a e2=>?_⟩
    cases e2
    exact ⟨o,e,ex.2.1⟩
   ·obtain ⟨o,_,_,_,e,ex,_⟩:=I.hok p _ hk;refine ⟨⟨o,e,ex.1⟩,fun a e2=>?_⟩
    cases e2
    exact ⟨o,e,ex.2.1⟩
 | _=>exact False.elim ty
def tBM (K:PySem.W.Frag) (T:String) (r:V→List V→Hp→VK→Prop) (to:TE) (t:TA):TE:=fun σ H Q=>to σ H fun x H1=>tyV K T x H1∧t σ H1 fun xs H2=>r x xs H2 Q
variable {o e:Expr} {es:List Expr} {to:TE} {t:TA} {name:Str} {apos cpos:Pos} {T id:String} {r:V→List V→Hp→VK→Prop}
theorem zly (pa:PlainAttrs T) (slot:Slot T name id) (hty:typeOf (.builtin id)=pure (.type "method_descriptor")) (hm:MtR X id r) (ho:PE X o to) (ha:PA X (e::es) t)
  (hbase:attributeBase o name X.env (eval o X.env)=eval o X.env:=by rfl)
  (hfew:((backTo cpos (starEach (e::es) X.env)).all (fun x=>!x.1) && (backToKw cpos (keywordEach [] X.env)).all (fun x=>x.1.isSome)
   && decide ((e::es).length+([]:List Keyword).length+(if ([]:List Keyword).isEmpty then 0 else 1) < 30))=true:=by rfl)
  (hline:(apos.endLine == cpos.line)=true:=by rfl) (hs:starEach (e::es) X.env=(false,eval e X.env)::starEach es X.env:=by rfl) (hplain:(backTo cpos (starEach es X.env)).any (·.1)=false:=by rfl) :
  PE X (.Call (.Attribute o name apos) (e::es) [] cpos) (tBM X.K T r to t):=by
 intro pins s σ H Q I h;refine wpAny_Call_method_late hbase hfew hline rfl (thn (ho pins s σ H _ I h) fun v s1 ⟨x,H1,I1,r1,ty,q1⟩=>?_);obtain ⟨h1,h2⟩:=zkz I1 r1 ty;refine ⟨T,id,pa,slot,hty,h1,h2,?_⟩;have hA:=ha cpos pins s1 σ H1 _ I1 q1;rw [hs] at hA ⊢;refine Calls.callWith_builtin (by show (false || (backTo cpos (starEach es X.env)).any (·.1))=false;rw [hplain] <;> rfl) (Calls.evalArgs_plain ?_);exact thn hA fun us s2 ⟨vs,H2,I2,r2,q2⟩=>hm pins s2 σ H2 x vs v us Q I2 r1 r2 q2
end
end L2
namespace L2
open PySem PySem.Spec PyProof.Rows
def MtM (X:Cx) (id:String) (r:V→List V→Hp→VK→Prop):Prop :=
 ∀ (pins:List (Addr×Obj)) (s:Shared) (σ:St) (H:Hp) (x:V) (xs:List V) (v:Value) (us:List Value) (Q:VK),Inv X pins σ H s→RelV x v→Vals xs us→r x xs H Q →
  wpAny (model X.prog X.w) X.A (call (.builtin id) (v::us)) (EP X pins σ Q) X.xe s
theorem Vals.one:∀ {x:V} {us:List Value},Vals [x] us→∃ u,us=[u]∧RelV x u
 | _,_,.cons r .nil=>⟨_,rfl,r⟩
theorem Vals.two:∀ {x y:V} {us:List Value},Vals [x,y] us→∃ u v,us=[u,v]∧RelV x u∧RelV y v
 | _,_,_,.cons r (.cons q .nil)=>⟨_,_,rfl,r,q⟩
section
variable {X:Cx} {pins:List (Addr×Obj)} {σ:St} {H:Hp} {s:Shared} {l b:Addr} {xs ys zs:List V}
theorem Inv.lset {its its':List Value} {n:Nat} {f:Array Value→Array Value} {t':Nat} (I:Inv X pins σ H s) (hH:H l=some (.lst xs))
  (e:s.heap.get? l=some { cls:=.type "list",data:=.seq its.toArray n }) (hf:f its.toArray=its'.toArray) (hv:Vals ys its') (hz:ys.length≤sizeLine) :
  Inv X pins σ (upd H l (.lst ys)) { s with heap:=s.heap.update l (Obj.mapSeq f),toks:=t' }:=by
 have q:=PySem.IsL.update e f;rw [hf] at q;refine I.write (x:=l) (e:=l) (by rw [hH];exact trivial) (.inl rfl) (fun b' u hb hu=>(Heap.get?_update_other s.heap (Obj.mapSeq f) (Ne.symm hb)).trans hu) ⟨_,q⟩ ?_;exact ⟨hz,its',_,hv,q⟩
theorem Inv.lnew {its:List Value} {t':Nat} (I:Inv X pins σ H s) (hv:Vals ys its) (hz:ys.length≤sizeLine) :
  Inv X pins σ (upd H s.heap.objs.size (.lst ys)) { s with heap:=s.heap.push { cls:=.type "list",data:=.seq its.toArray },toks:=t' } :=
 I.laid (fun _ _ q=>Heap.get?_push_of_some _ q) (Nat.le_refl _) ⟨hz,its,0,hv,Heap.get?_push_size _ rfl⟩
theorem Inv.fresh (I:Inv X pins σ H s):H s.heap.objs.size=none:=I.hok.fresh (Nat.le_refl _)
theorem Inv.lstM (I:Inv X pins σ H s) (hH:H l=some (.lst xs)):xs.length≤sizeLine∧∃ (its:List Value) (n:Nat),Vals xs its∧xs.length=its.length∧s.heap.get? l=some { cls:=.type "list",data:=.seq its.toArray n }:=by
 obtain ⟨z,its,n,r,e⟩:=I.hok l _ hH;exact ⟨z,its,n,r,r.length,e⟩
theorem zeu {n:Nat} (h:n≤sizeLine):Builtin.List.listTooLong n=false:=by
 unfold Builtin.List.listTooLong;exact decide_eq_false (by omega)
end
section
variable {X:Cx}
def rAppend:V→List V→Hp→VK→Prop:=fun x vs H Q=>∃ l xs y,x=.ref l∧vs=[y]∧H l=some (.lst xs)∧xs.length < sizeLine∧Q .non (upd H l (.lst (xs++[y])))
theorem mt_append:MtM X "list.append" rAppend:=by
 intro pins s σ H x vs v us Q I rx rv h;obtain ⟨l,xs,y,rfl,rfl,hH,hz,q⟩:=h
 cases rx
 obtain ⟨u,rfl,ru⟩:=rv.one;obtain ⟨z,its,n,r,hl,e⟩:=I.lstM hH;refine call_meets F.slot_list_append ⟨_,e,rfl⟩ F.entry_list_append (F.args_list_append_2 _ _) (PySem.list_append l its.toArray n u (by rw [List.size_toArray];omega)) ⟨e,?_⟩;refine ⟨.non,_,I.lset (its':=its++[u]) hH e (by simp) (r.append (.cons ru .nil)) ?_,rfl,q⟩;rw [List.length_append,List.length_singleton];omega
def rExtend:V→List V→Hp→VK→Prop:=fun x vs H Q=>∃ l b xs zs,x=.ref l∧vs=[.ref b]∧H l=some (.lst xs)∧H b=some (.lst zs)∧xs.length+zs.length≤sizeLine∧Q .non (upd H l (.lst (xs++zs)))
theorem mt_extend:MtM X "list.extend" rExtend:=by
 intro pins s σ H x vs v us Q I rx rv h;obtain ⟨l,b,xs,zs,rfl,rfl,hH,hB,hz,q⟩:=h
 cases rx
 obtain ⟨u,rfl,ru⟩:=rv.one
 cases ru
 obtain ⟨z,its,n,r,hl,e⟩:=I.lstM hH;obtain ⟨z2,its2,n2,r2,hl2,e2⟩:=I.lstM hB;have hsz:its.toArray.size+its2.toArray.size≤sizeLine:=by rw [List.size_toArray,List.size_toArray];omega
 have hlong:¬(!its.toArray.isEmpty && Builtin.List.listTooLong (its.toArray.size+its2.toArray.size))=true:=by
  rw [zeu hsz,Bool.and_false];exact Bool.false_ne_true
 refine call_meets F.slot_list_extend ⟨_,e,rfl⟩ F.entry_list_extend (F.args_list_extend_2 _ _)
  (AutoSeq1.list_extend_list_list_0 l its.toArray n b its2.toArray n2 hlong (by rw [List.size_toArray];omega) (by omega)) ⟨e,e2,?_⟩
 refine ⟨.non,_,I.lset (its':=its++its2) hH e (by simp) (r.append r2) ?_,rfl,q⟩;rw [List.length_append];omega
def rCat:R2:=fun x y H Q=>∃ l b xs zs,x=.ref l∧y=.ref b∧H l=some (.lst xs)∧H b=some (.lst zs)∧xs.length+zs.length≤sizeLine∧∀ p,H p=none→Q (.ref p) (upd H p (.lst (xs++zs)))
theorem op_cat:OpR X (binaryOp .Add) rCat:=by
 intro pins s σ H x y v u Q I rx ry h;obtain ⟨l,b,xs,zs,rfl,rfl,hH,hB,hz,q⟩:=h
 cases rx
 cases ry
 obtain ⟨z,its,n,r,hl,e⟩:=I.lstM hH;obtain ⟨z2,its2,n2,r2,hl2,e2⟩:=I.lstM hB;refine PySem.P.add_list e e2 ?_ (by rw [List.size_toArray,List.size_toArray];omega);have ea:its.toArray++its2.toArray=(its++its2).toArray:=by simp
 rw [ea];exact ⟨.ref _,_,I.lnew (t':=s.toks) (r.append r2) (by rw [List.length_append];omega),rfl,q _ I.fresh⟩
end
section
variable {prog:Program} {w:World} {A:Around} {E:Value→Shared→Prop} {s:Shared}
theorem zgA {a c n:Nat} (hac:a≤c) (hc:c≤n):sliceBounds (some (a:Int)) (some (c:Int)) none n=((a:Int),(c:Int),1):=by
 simp only [sliceBounds,Option.getD_none];have h1:¬((a:Int) < 0):=by omega
 have h2:¬((c:Int) < 0):=by omega
 simp only [h1,h2,if_false,show (1:Int) > 0 by decide,if_true]
 congr 1
 ·omega
 ·congr 1;omega
set_option maxRecDepth 100000 in
theorem ziz {l b sl:Addr} {items new:Array Value} {n n2:Nat} {vl vu:Value} {a c:Nat} {Q:Unit→Shared→Prop}
  (e:s.heap.get? l=some { cls:=.type "list",data:=.seq items n }) (e2:s.heap.get? b=some { cls:=.type "list",data:=.seq new n2 }) (hne:l≠b)
  (hs:s.heap.IsSliceOf sl vl vu .none) (pl:IsPart vl (some (a:Int))) (pu:IsPart vu (some (c:Int))) (hac:a≤c) (hc:c≤items.size)
  (hsz:items.size+new.size≤sizeLine) (h:Q () { s with heap:=s.heap.update l (Obj.mapSeq fun xs=>xs.extract 0 a++new++xs.extract c xs.size) }) :
  wpAny (model prog w) A (setItem (.ref l) (.ref sl) (.ref b)) Q E s:=by
 have hl:s.heap.IsList l items:=PySem.IsL.isList e;have hb:s.heap.IsList b new:=PySem.IsL.isList e2;obtain ⟨os,hos,hcs,hds⟩:=id hs;have hTs:s.TypeIs (.ref sl) "slice":=⟨os,hos,hcs⟩
 have hstep:¬((rawPart none == rawInt 0)=true):=Bool.false_ne_true;have hsame:Builtin.List.listSameRef (.ref l) (.ref b)=false:=by
  unfold Builtin.List.listSameRef;exact beq_eq_false_iff_ne.mpr hne
 have hmax:(max (a:Int) (c:Int)).toNat=c:=by omega
 have hz':((fun xs:Array Value=>xs.extract 0 a++new++xs.extract c xs.size) items).size≤sizeLine+1:=by
  simp only [Array.size_append,Array.size_extract];omega
 unfold setItem
 try with_reducible refine wpAny_holding ?_
 first | refine wpAny_bind (wpAny_pure ?_) | skip
 refine wpAny_bind (wpAny_sequenceKey hl.typeIs (by decide) ?_);refine wpAny_bind (wpAny_callSpecial?_slot (name:=Str.ofString "__setitem__") hl.typeIs slot_list_setitem
  (wpAny_call_entry slot_list_setitem hl.typeIs entry_list_setitem ?_ (args_list_setitem _ _ _)))
 show wpAny _ _ (Builtin.List.listSubscript? (.ref sl) >>= _) _ _ s;refine wpAny_bind ?_;unfold Builtin.List.listSubscript?;refine wpAny_bind (wpAny_specialOf hTs slice_no_index ?_);simp only [Option.isNone_none,if_true];refine wpAny_pure ?_;show wpAny _ _ (typeOf (.ref sl) >>= _) _ _ s;refine wpAny_bind (wpAny_typeOf hTs ?_)
 first
  | rw [if_neg (by decide)]
  | refine PySem.W.KFB.if_not (by decide) ?_
 rw [listSliceParts_eq];refine wpAny_bind (wpAny_bind (wpAny_field hos hds (x:=.none) rfl (wpAny_bind (wpAny_listPart .none ?_))));rw [if_neg hstep];refine wpAny_bind (wpAny_field hos hds (x:=vl) rfl (wpAny_bind (wpAny_listPart pl ?_)));refine wpAny_bind (wpAny_field hos hds (x:=vu) rfl (wpAny_bind (wpAny_listPart pu (wpAny_pure ?_))))
 first
  | simp only [hsame,Bool.false_eq_true,if_false]
  | refine PySem.W.KFB.if_not hsame ?_
  | (dsimp only
     rw [if_neg (by rw [hsame];exact Bool.false_ne_true)])
 refine wpAny_bind (m:=Builtin.List.listAllItems (.ref b) "must assign iterable to extended slice") ?_;unfold Builtin.List.listAllItems;refine wpAny_bind (wpAny_typeOf hb.typeIs ?_)
 first
  | refine PySem.W.KFB.if_so (by decide) ?_
  | rw [if_pos (by decide)]
  | simp only [beq_self_eq_true,Bool.true_or,if_true]
 unfold Builtin.List.listItems;refine wpAny_bind (wpAny_seqItems e2 rfl (wpAny_pure ?_));refine wpAny_bind (wpAny_bind (wpAny_seqItems e rfl (wpAny_pure ?_)));refine wpAny_bind (wpAny_of_eq ((sliceIndices_raw (some (a:Int)) (some (c:Int)) none items.size (by simp)).trans (congrArg (pure:Int×Int×Int→Sem (Int×Int×Int)) (zgA hac hc))) ?_);show wpAny _ _ (if ((1:Int) == 1)=true then _ else _) _ _ s;rw [if_pos (by decide)];refine wpAny_bind (wpAny_rule ?_)
 first
  | simp only [zeu hsz,Bool.false_eq_true,if_false]
  | refine PySem.W.KFB.if_not (zeu hsz) ?_
 first | refine wpAny_bind (wpAny_pure ?_) | skip
 show wpAny _ _ (updateSeq l (fun xs=>xs.extract 0 ((a:Int)).toNat++new++xs.extract (max (a:Int) (c:Int)).toNat xs.size) >>= _) _ _ s;rw [hmax,Int.toNat_natCast];refine wpAny_bind (wpAny_updateSeq (hz:=Nat.le_trans (Nat.le_add_right _ _) hsz) (_hz':=hz') e rfl ?_);refine wpAny_bind (wpAny_letGo ?_)
 first
  | exact wpAny_bind (wpAny_pure (wpAny_pure ⟨.none,rfl,wpAny_pure h⟩))
  | exact wpAny_pure ⟨.none,rfl,wpAny_pure h⟩
end
section
variable {X:Cx}
end
end L2
namespace Att
open PySem PySem.W PySem.Calls PyProof.Rows
theorem zdz {P:Params} {h:Heap}:∀ (ns:List Int) (vs:List Value),WellAll P h vs (ns.map WData.int)→IntsAre vs ns:=by
 intro ns
 induction ns with
 | nil =>
   intro vs w;rw [List.map_nil] at w
   cases w
   exact .nil
 | cons n ns ih =>
   intro vs w;rw [List.map_cons] at w
   cases w with
   | cons a b =>
     cases a
     exact .cons _ _ (ih _ b)
theorem zhq {l:OpenLaw} {n:Nat} (hn:l.most=some n) {P:Params} {h:Heap} {args:List WData} {vals:List Value}
  (hpre:l.row.toRowW.claim.pre args=true) (hwl:WellAll P h vals args) :
  ∃ a vs ns,vals=[Value.ref a]∧args=[WData.list (ns.map WData.int)]∧h.get? a=some { cls:=.type "list",data:=.seq vs.toArray }∧IntsAre vs ns∧ns.length≤n:=by
 have hsh:WShape.hasAll [] args [.list .int]=true:=(pre_splitW hpre).1;have hc:l.pre.holds [] { args:=args }=true:=(pre_splitW hpre).2;obtain ⟨d,r,rfl,h1,h2⟩:=hasAllW_cons hsh;obtain rfl:=hasAllW_nil h2;obtain ⟨xs,rfl,h3⟩:=hasW_list h1;obtain ⟨ns,rfl⟩:=items_int h3;have hlen:ns.length≤n:=by
  unfold OpenLaw.pre at hc;have h4:(WTm.not (.lt (.lit (.int (n:Int))) (.len (.arg 0)))).holds [] { args:=[.list (ns.map .int)] }=true:=by
   have h4:=(holds_andW hc).1;rw [hn] at h4;exact h4
  have h5:=condW_of h4 (w_not (w_lt w_lit (w_len_list (w_arg rfl))));rw [List.length_map] at h5;refine Nat.le_of_not_lt fun q=>?_;have q':(n:Int) < ((ns.length:Nat):Int):=by omega
  first
   | (rw [decide_eq_true q'] at h5;exact absurd h5 (by decide))
   | (simp at h5;omega)
 cases hwl with
 | cons w1 w2 =>
   cases w2
   cases w1 with
   | list ho hall=>exact ⟨_,_,ns,rfl,rfl,ho,zdz ns _ hall,hlen⟩
theorem zhr (l:OpenLaw) (args:List WData):l.row.toRowW.claim.post args (.bool true) args=true :=
 postW_of (r:=l.row.toRowW) (X:=(true == true))
  (show WShape.has [] (.bool true) .bool=true by first | rfl | decide | simp [WShape.has,WShape.arms,WShape.armsAll])
  (show (WTm.eq .res (.lit (.bool true))).value [] { args:=args,res:=some (.bool true),after:=args }=some (.bool (true == true)) from w_eq_bool (w_res rfl) w_lit) rfl
theorem attach_call {l:OpenLaw} {n:Nat} {q:Program} {loose:List Str} {XP:(Str→Option Value)→Heap→Prop} {YP:World→Heap→Prop} {d:DefRec}
  (hn:l.most=some n) (hdf:d.params.defaults=[])
  (call:∀ (w:World) (s₀ s₁:Shared) (mg mb:Str→Option Value) (fa:Addr) (o:Obj) (pm cd doc:Value) (a:Addr) (vs:List Value) (ns:List Int),
   Ground q loose [] XP w s₀ mg mb s₁.heap→YP w s₁.heap →
   s₁.heap.get? fa=some o→o.data=.func (docDef d.name d.params d.body d.scope pm cd doc)→s₁.heap.CodeRec cd d.name→mg d.name=some (.ref fa) →
   s₁.heap.get? a=some { cls:=.type "list",data:=.seq vs.toArray }→IntsAre vs ns→ns.length≤n→s₁.gens=#[] →
   codeAny (model l.prog w) callerA (.call (.ref fa) ⟨[.ref a],[]⟩) (fun r s'=>r=.ok (.ret (.bool true))∧OldK s₁.heap s'.heap∧s'.os=s₁.os∧AllBare s'.gens) s₁) :
  WalkO q loose XP YP l.row.toRowW d [] (fun f vs=>PySem.call f vs):=by
 intro w s₀ s₁ mg mb G Y fa o pm cd doc dV kV ho hd hcd hD hmg hg args vals as hpre hlay hrd hwl hlo;obtain rfl:dV=.none:=Dflts.none hD hdf;obtain rfl:kV=.none:=Dflts.noKw hD;obtain ⟨a,vs,ns,rfl,rfl,hobj,hints,hlen⟩:=zhq hn hpre hwl;refine enter_call (codeAny_mono (call w s₀ s₁ mg mb fa o pm cd doc a vs ns G Y ho (fd_plain hd) hcd hmg hobj hints hlen hg) fun r s' hq=>?_);obtain ⟨rfl,h2,h3,h4⟩:=hq;exact ⟨.inl ⟨.bool true,.bool true,[],rfl,fun _=>rfl,.bool true,zhr l _,fun _=>⟨List.Pairwise.nil,fun _ hm=>(nomatch hm)⟩⟩,h2,h3,h4⟩
section
variable {prog:Program} {w:World} {A:Around} {E:Value→Shared→Prop} {s:Shared} {K:Frag}
end
end Att
namespace L2
open PySem PySem.Spec PyProof.Rows
theorem vals_ints:∀ {vs:List Value} {ns:List Int},IntsAre vs ns→Vals (ns.map V.int) vs
 | _,_,.nil=>.nil
 | _,_,.cons n t h=>.cons ⟨t,rfl⟩ (vals_ints h)
def Only (H:Hp):Prop:=∀ b,H b=none∨∃ o xs,H b=some (.frz o (.lst xs))
theorem ziA {P:Program} {w:World} {K:PySem.W.Frag} {mg mb:Str→Option Value} {CX:CXT} {k:Nat} {fa a:Addr} {fd:FuncData} {x:Str} {sp:Sp} {s₁:Shared} {vs:List Value} {ns:List Int}
  (KX:K.In s₁.heap) (hns:s₁.heap.Ns mainGlobals mg) (hb:s₁.heap.Ns builtinsNs mb) (hbb:∀ x:Str,x≠"__name__"→mb x=bootBuiltins x) (hlim:s₁.heap.NoLimit) (hg:s₁.gens=#[])
  (ha:s₁.heap.get? a=some { cls:=.type "list",data:=.seq vs.toArray }) (hi:IntsAre vs ns) (hl:ns.length≤sizeLine) (hr:Room k callerA)
  (F:∀ base:Heap,K.In base→base.Ns mainGlobals mg→FnOk P w K mg base CX k fa fd [x] sp) (hbind:∀ (s:Shared) (u:Value),BindsTo s fd ⟨[u],[]⟩ [(x,u)])
  (hsp:∀ H:Hp,Only H→SqL K H a (ns.map V.int)→sp [.ref a] H (fun v _=>v=.bl true) fun _ _ _=>False)
  (hCX:∀ H e s',CX [] H s₁ (fun _ _ _=>False) e s'→False) :
  codeAny (model P w) callerA (.call (.ref fa) ⟨[.ref a],[]⟩) (fun r s'=>r=.ok (.ret (.bool true))∧OldK s₁.heap s'.heap∧s'.os=s₁.os∧AllBare s'.gens) s₁:=by
 have rv:=vals_ints hi;have lenV:=hi.length;have core:∀ H:Hp,Only H→SqL K H a (ns.map V.int)→HOk P w H s₁.heap→(∀ b,H b≠none→b=a)→(H a≠none→K.lookup a=none) →
   codeAny (model P w) callerA (.call (.ref fa) ⟨[.ref a],[]⟩) (fun r s'=>r=.ok (.ret (.bool true))∧OldK s₁.heap s'.heap∧s'.os=s₁.os∧AllBare s'.gens) s₁:=by
  intro H hO hS hok hA hK;have base_of:∀ {b:Addr} {o:Obj},s₁.heap.get? b=some o→H b=none→(hidT s₁.heap H).get? b=some o:=fun e n=>zio e n;have noA:∀ {b:Addr} {o:Obj} {es:Array DictEntry} {ep:Nat},s₁.heap.get? b=some o→o.data=.dict es ep→H b=none:=fun {b o es ep} e d=>by
   cases q:H b with
   | none=>rfl
   | some u =>
     have e':b=a:=hA b (by rw [q];simp);subst e';rw [ha] at e;cases e
     have d':Data.seq vs.toArray _=Data.dict es ep:=d
     cases d'
  have nsK:∀ {b:Addr} {m:Str→Option Value},s₁.heap.Ns b m→(hidT s₁.heap H).Ns b m:=fun {b m} ⟨o,es,ep,e,d,r⟩=>⟨o,es,ep,base_of e (noA e d),d,r⟩
  have hKb:K.In (hidT s₁.heap H):=fun b o e=>base_of (KX b o e) (by
   cases q:H b with
   | none=>rfl
   | some u =>
     have e':b=a:=hA b (by rw [q];simp);subst e';rw [hK (by rw [q];simp)] at e;cases e)
  have hM:Mod K mg (hidT s₁.heap H):=⟨hKb,nsK hns,⟨mb,nsK hb,hbb⟩,let ⟨mc,h1,h2⟩:=hlim;⟨mc,nsK h1,h2⟩⟩
  have e0:Env0 P w K mg (hidT s₁.heap H) callerA [] s₁ H:=⟨rfl,hM,fun b o e=>zjs e,Nat.le_of_eq (zg6 _ _),trivial,fun b hb=>absurd (show b∈([]:List Addr) from hb) (by simp),hok,.of_eq hg⟩
  refine codeAny_mono ((F _ hKb (nsK hns)).run callerA [] s₁ H ⟨[.ref a],[]⟩ [.ref a] [.ref a] _ _ hr e0 (hbind s₁ (.ref a)) (.cons rfl .nil) (hsp H hO hS)) fun r s' h=>?_
  cases r with
  | error e=>exact (hCX H e s' h).elim
  | ok fl =>
    cases fl with
    | next=>exact False.elim h
    | brk=>exact False.elim h
    | cont=>exact False.elim h
    | ret u =>
      obtain ⟨v,H',os,bare,un,hok',r',q⟩:=h;have q':v=.bl true:=q;subst q';obtain rfl:u=Value.bool true:=r';refine ⟨rfl,OldK.of_keep fun b o e=>?_,os,bare⟩
      cases q:H b with
      | none=>exact un.keep b o e q (by intro z;exact absurd (show b∈([]:List Addr) from z) (by simp)) (by simp)
      | some u =>
        rcases hO b with z | ⟨ob,xs,z⟩
        ·rw [q] at z;cases z
        ·have z2:=un.frzs b ob _ z;obtain ⟨e1,_⟩:=hok b _ z;obtain ⟨e2,_⟩:=hok' b _ z2;rw [e] at e1;cases e1
         exact e2
 cases hk:K.lookup a with
 | some o =>
   have e:=KX a o hk;rw [ha] at e
   cases e
   refine core (fun _=>none) (fun _=>.inl rfl) (.inr ⟨_,vs.toArray,_,hk,rfl,rfl,rfl,by rw [List.size_toArray,lenV];exact hl,by simpa using rv⟩) (fun b u z=>by have z':(none:Option HO)=some u:=z;cases z') (fun b z=>absurd rfl z) fun z=>absurd rfl z
 | none =>
   refine core (fun b=>if b=a then some (.frz { cls:=.type "list",data:=.seq vs.toArray } (.lst (ns.map V.int))) else none) (fun b=>?_) (.inl (.inr ⟨{ cls:=.type "list",data:=.seq vs.toArray },if_pos rfl⟩)) (fun b u z=>?_) (fun b z=>?_) fun _=>hk
   ·by_cases hb:b=a
    ·exact .inr ⟨_,_,if_pos hb⟩
    ·exact .inl (if_neg hb)
   ·by_cases hb:b=a
    ·have z':=(if_pos hb).symm.trans z
     cases z'
     subst hb;exact ⟨ha,by rw [List.length_map];exact hl,vs,_,rv,ha⟩
    ·have z':=(if_neg hb).symm.trans z
     cases z'
   ·by_cases hb:b=a
    ·exact hb
    ·exact absurd (if_neg hb) z
end L2
namespace L2
open PySem PySem.Spec PyProof.Rows
theorem zjD {l:PySem.W.OpenLaw} {n k:Nat} {q:Program} {loose:List Str} {XP:(Str→Option Value)→Heap→Prop} {YP:World→Heap→Prop} {d:DefRec} {K:Params→PySem.W.Frag} {CX:World→CXT} {sp:World→Sp} {x:Str}
  (hn:l.most=some n) (hn2:n≤sizeLine) (hdf:d.params.defaults=[]) (hr:Room k callerA)
  (hY:∀ (w:World) (h:Heap),YP w h→(K w.params).In h)
  (F:∀ (w:World) (mg:Str→Option Value) (fa:Addr) (h:Heap),(K w.params).In h→h.Ns mainGlobals mg→mg d.name=some (.ref fa) →
   ∃ fd:FuncData,(∀ (s:Shared) (u:Value),BindsTo s fd ⟨[u],[]⟩ [(x,u)]) ∧
    ∀ base:Heap,(K w.params).In base→base.Ns mainGlobals mg→FnOk l.prog w (K w.params) mg base (CX w) k fa fd [x] (sp w))
  (hsp:∀ (w:World) (H:Hp) (a:Addr) (ns:List Int),ns.length≤n→Only H→SqL (K w.params) H a (ns.map V.int)→sp w [.ref a] H (fun v _=>v=.bl true) fun _ _ _=>False)
  (hCX:∀ (w:World) (H:Hp) (s:Shared) (e:Value) (s':Shared),CX w [] H s (fun _ _ _=>False) e s'→False) :
  PySem.W.WalkO q loose XP YP l.row.toRowW d [] (fun f vs=>PySem.call f vs):=by
 refine Att.attach_call hn hdf fun w s₀ s₁ mg mb fa o pm cd doc a vs ns G Y ho hd hcd hmg hobj hints hlen hg=>?_;have KX:=hY w _ Y;obtain ⟨fd,hb,hF⟩:=F w mg fa _ KX G.T.g hmg;exact ziA KX G.T.g G.T.b G.T.builtins G.T.nolimit hg hobj hints (Nat.le_trans hlen hn2) hr hF hb (fun H hO hS=>hsp w H a ns hlen hO hS) fun H e s'=>hCX w H s₁ e s'
end L2
namespace L2
open PySem PySem.Spec PyProof.Rows
def za7 (s:Stmt) (j:Nat):Stmt:=match s with
 | .ClassDef _ _ _ body _ _ _ _ _ _ _=>body.getD j (.Pass ⟨0,0,0,0⟩)
 | _=>.Pass ⟨0,0,0,0⟩
def zal (s:Stmt):Arguments:=match s with
 | .FunctionDef _ a _ _ _ _ _ _ _ _=>a
 | _=>{ posonlyargs:=[],args:=[],vararg:=none,kwonlyargs:=[],kw_defaults:=[],kwarg:=none,defaults:=[] }
def zai (s:Stmt):List Stmt:=match s with
 | .FunctionDef _ _ b _ _ _ _ _ _ _=>b
 | _=>[]
def zab (s:Stmt):Scope:=match s with
 | .FunctionDef _ _ _ _ _ _ sc _ _ _=>sc
 | _=>{ kind:=.function,names:=[],isGenerator:=false,isCoroutine:=false }
abbrev CX0:CXT:=fun _ _ _ _ _ _=>False
abbrev E0:XK:=fun _ _ _=>False
theorem zaI {X:Cx}:zc9 CX0 X E0:=fun _ _ _ _ _ _ _ h=>h.elim
structure Fun (K:PySem.W.Frag) (x qual:Str) (st:Stmt) (f:Addr) (fd:FuncData):Prop where
 ex:∃ (oc:Value) (od:Option Addr) (kV doc pm:Value) (an:Option Addr) (cdv ct:Value) (osl:Array (Option Value)),
  fd=PySem.W.fnOf x qual (zal st) (zai st) (zab st) .none kV doc pm an cdv ct∧K.lookup f=some ⟨oc,od,.func fd,osl⟩∧PySem.W.codeIn K cdv qual=true
 kp:PySem.W.keepIn K (.ref f)=true
section
variable {P:Program} {w:World} {K:PySem.W.Frag} {mg:Str→Option Value} {base:Heap}
theorem Fun.ok {x qual:Str} {st:Stmt} {f:Addr} {fd:FuncData} {N ps:List Str} {k:Nat} {sp:Sp} (F:Fun K x qual st f fd) (S:zak N ps (zab st)) (len:∀ vs H Q E,sp vs H Q E→vs.length=ps.length)
  (hbody:∀ (cdv:Value) (A:Around) (outer:List Env) (s:Shared) (H:Hp) (vs:List V) (Q:VK) (E:XK),Room k (A.deeper (envOfC qual (zab st) s.heap.objs.size f cdv))→sp vs H Q E →
   ∃ t,PSs (cxOf CX0 P w K mg base N qual (zab st) f cdv A outer s H E).nox (zai st) t∧t { nx:=fun _ H'=>Q .non H',rt:=Q } (start N vs) H):FnOk P w K mg base CX0 (k+1) f fd ps sp:=by
 obtain ⟨oc,od,kV,doc,pm,an,cdv,ct,osl,rfl,lk,hcd⟩:=F.ex;refine zkx lk hcd S len fun A outer s H vs Q E hr hsp=>?_;obtain ⟨t,h,q⟩:=hbody cdv A outer s H vs Q E hr hsp;exact ⟨t,h.nox,q⟩
theorem Fun.binds {x qual:Str} {st:Stmt} {f:Addr} {fd:FuncData} {ps:List Str} (F:Fun K x qual st f fd)
  (h:∀ (kV doc pm:Value) (an:Option Addr) (cdv ct:Value) (us:List Value),us.length=ps.length→bindArgs (PySem.W.fnOf x qual (zal st) (zai st) (zab st) .none kV doc pm an cdv ct) ⟨us,[]⟩=pure (ps.zip us)):Binds K fd ps []:=by
 obtain ⟨oc,od,kV,doc,pm,an,cdv,ct,osl,rfl,lk,hcd⟩:=F.ex;exact .all (h kV doc pm an cdv ct)
theorem zaw {x qual:Str} {st:Stmt} {f:Addr} {oc:Value} {od an:Option Addr} {osl:Array (Option Value)} {kV doc pm cdv ct:Value} (l:K.lookup f=some ⟨oc,od,.func (PySem.W.fnOf x qual (zal st) (zai st) (zab st) .none kV doc pm an cdv ct),osl⟩)
  (c:PySem.W.codeIn K cdv qual=true) (k:PySem.W.keepIn K (.ref f)=true):Fun K x qual st f (PySem.W.fnOf x qual (zal st) (zai st) (zab st) .none kV doc pm an cdv ct):=⟨⟨oc,od,kV,doc,pm,an,cdv,ct,osl,rfl,l,c⟩,k⟩
end
theorem zhs {A:Around} {k:Nat} (hr:Room k A):A.units+1 < cLine:=Nat.lt_of_le_of_lt (Nat.add_le_add_left (by decide:1≤64) _) hr.units
theorem zaH {n:Nat} (h:n≤1000):n < sizeLine:=Nat.lt_of_le_of_lt h (by decide)
section
variable {X:Cx}
theorem pv (i:Nat) {x:Str} {pos:Pos} (hN:X.N[i]? = some x:=by rfl) (hv:Vis X.env.scope x:=by first | exact Or.inl rfl | exact Or.inr (Or.inl rfl) | exact Or.inr (Or.inr rfl)) (hd:(x == ("__debug__" : Str))=false:=by decide)
  (hcd:(x == ("__classdict__" : Str))=false:=by decide):PE X (.Name x pos) (tVar i):=zkm hN hv hd hcd
end
theorem iteF {A B:Prop} (h:B):if false=true then A else B:=by
 rw [if_neg Bool.false_ne_true];exact h
theorem iteT {A B:Prop} (h:A):if true=true then A else B:=by
 rw [if_pos rfl];exact h
def Same (H H':Hp):Prop:=∀ b o,H b=some o→H' b=some o
theorem Same.refl (H:Hp):Same H H:=fun _ _ h=>h
theorem Same.trans {H H1 H2:Hp} (a:Same H H1) (b:Same H1 H2):Same H H2:=fun c o h=>b c o (a c o h)
theorem Same.free {H H':Hp} (e:Same H H') {l:Addr} (h:H' l=Option.none):H l=Option.none:=by
 cases q:H l with
 | none=>rfl
 | some o =>
   rw [e l o q] at h
   cases h
theorem Same.seq {K:PySem.W.Frag} {H H':Hp} {a:Addr} {xs:List V} (e:Same H H') (h:SqL K H a xs):SqL K H' a xs:=by
 rcases h with (h | ⟨o,h⟩) | h
 ·exact .inl (.inl (e _ _ h))
 ·exact .inl (.inr ⟨o,e _ _ h⟩)
 ·exact .inr h
end L2
namespace L2
open PySem PySem.Spec PyProof.Rows
section
variable {κ:Type} [DecidableEq κ]
def valV (kvs:List (κ×V)) (k:κ):Option V:=(kvs.find? fun kv=>decide (kv.1=k)).map (·.2)
def putK (kvs:List (κ×V)) (k:κ) (v:V):List (κ×V) :=
 if (kvs.any fun kv=>decide (kv.1=k))=true then kvs.map (fun kv=>if kv.1=k then (kv.1,v) else kv) else kvs++[(k,v)]
theorem zev {p:κ×V} {r:List (κ×V)} {k:κ} (e:p.1=k):valV (p::r) k=some p.2:=by simp [valV,List.find?_cons,e]
theorem zew {p:κ×V} {r:List (κ×V)} {k:κ} (e:¬p.1=k):valV (p::r) k=valV r k:=by simp [valV,List.find?_cons,e]
theorem zgh (k:κ):∀ kvs:List (κ×V),(kvs.any fun kv=>decide (kv.1=k))=(valV kvs k).isSome
 | []=>rfl
 | p::r=>by
   rw [List.any_cons]
   by_cases e:p.1=k
   ·simp only [zev e,decide_eq_true e,Bool.true_or,Option.isSome_some]
   ·rw [zew e,decide_eq_false e,Bool.false_or];exact zgh k r
theorem zdA (kvs:List (κ×V)) (k:κ) (v:V):(putK kvs k v).length≤kvs.length+1:=by
 unfold putK;split
 ·rw [List.length_map];omega
 ·rw [List.length_append,List.length_cons,List.length_nil];omega
theorem RelO.isSome_eq {o:Option V} {u:Option Value} (r:RelO o u):o.isSome=u.isSome:=by
 cases o with
 | none=>cases u with
   | none=>rfl
   | some _=>exact (show False from r).elim
 | some _=>cases u with
   | none=>exact (show False from r).elim
   | some _=>rfl
theorem KV.val {kvs:List (κ×V)} {vs:List (κ×Value)} (r:KV kvs vs) (k:κ):RelO (valV kvs k) (valueAt vs k):=by
 unfold KV at r
 induction r with
 | nil=>exact True.intro
 | @cons p q ps qs h t ih =>
   obtain ⟨h1,h2⟩:=h
   by_cases e:p.1=k
   ·have e':q.1=k:=h1.symm.trans e;have b:valueAt (q::qs) k=some q.2:=by simp [valueAt,List.find?_cons,e']
    rw [zev e,b];exact h2
   ·have e':¬q.1=k:=fun z=>e (h1.trans z);have b:valueAt (q::qs) k=valueAt qs k:=by simp [valueAt,List.find?_cons,e']
    rw [zew e,b];exact ih
theorem KV.any {kvs:List (κ×V)} {vs:List (κ×Value)} (r:KV kvs vs) (k:κ):(kvs.any fun kv=>decide (kv.1=k))=vs.any fun kv=>decide (kv.1=k):=by
 unfold KV at r
 induction r with
 | nil=>rfl
 | cons h t ih=>rw [List.any_cons,List.any_cons,ih,h.1]
theorem KV.repl {kvs:List (κ×V)} {vs:List (κ×Value)} (r:KV kvs vs) (k:κ) {y:V} {u:Value} (ry:RelV y u) :
  KV (kvs.map fun kv=>if kv.1=k then (kv.1,y) else kv) (vs.map fun kv=>if kv.1=k then (kv.1,u) else kv):=by
 unfold KV at r ⊢
 induction r with
 | nil=>exact .nil
 | @cons p q ps qs h t ih =>
   rw [List.map_cons,List.map_cons];refine .cons ?_ ih;obtain ⟨h1,h2⟩:=h
   by_cases e:p.1=k
   ·rw [if_pos e,if_pos (h1.symm.trans e)];exact ⟨h1,ry⟩
   ·rw [if_neg e,if_neg (fun z=>e (h1.trans z))];exact ⟨h1,h2⟩
theorem KV.put {kvs:List (κ×V)} {vs:List (κ×Value)} (r:KV kvs vs) (k:κ) {y:V} {u:Value} (ry:RelV y u):KV (putK kvs k y) (stored vs k u):=by
 unfold putK stored;rw [r.any k]
 by_cases e:(vs.any fun kv=>decide (kv.1=k))=true
 ·rw [if_pos e,if_pos e];exact r.repl k ry
 ·rw [if_neg e,if_neg e];exact Paired.snoc r ⟨rfl,ry⟩
theorem KV.length {kvs:List (κ×V)} {vs:List (κ×Value)} (r:KV kvs vs):kvs.length=vs.length:=Paired.length r
end
theorem zjE {P:Program} {w:World} {k:Key} {u:Value} (r:RelV (kV k) u):(za9 P w).is k u=true:=by
 cases k with
 | inl i=>obtain ⟨t,e⟩:=(show ∃ t,u=Value.int i t from r);subst e;exact zfH P w i t
 | inr x=>obtain ⟨t,e⟩:=(show ∃ t,u=Value.str x t from r);subst e;exact zdw P w x t
theorem ze3 {P:Program} {w:World}:∀ {ks:List Key} {us:List Value},Vals (ks.map kV) us→ItemsAre (za9 P w) ks us
 | [],_,r=>by rw [List.map_nil] at r;cases r;exact .nil
 | k::ks,_,r=>by
   rw [List.map_cons] at r
   cases r with
   | cons h t=>exact .cons (zjE h) (ze3 t)
abbrev KT (H:Hp):List (List Key×V)→List (List Key×Addr×Value)→Prop:=Paired fun p q=>p.1=q.1∧H q.2.1=some (.tup (p.1.map kV))∧RelV p.2 q.2.2
theorem KT.val {H:Hp} {kvs:List (List Key×V)} {xs:List (List Key×Addr×Value)} (r:KT H kvs xs) (k:List Key):RelO (valV kvs k) ((atKey xs k).map (·.2)):=by
 induction r with
 | nil=>exact True.intro
 | @cons p q ps qs h t ih =>
   obtain ⟨h1,_,h2⟩:=h
   by_cases e:p.1=k
   ·have e':q.1=k:=h1.symm.trans e;have b:atKey (q::qs) k=some q.2:=by simp [atKey,List.find?_cons,e']
    rw [zev e,b];exact h2
   ·have e':¬q.1=k:=fun z=>e (h1.trans z);have b:atKey (q::qs) k=atKey qs k:=by simp [atKey,List.find?_cons,e']
    rw [zew e,b];exact ih
theorem KT.repl {H:Hp} {kvs:List (List Key×V)} {xs:List (List Key×Addr×Value)} (r:KT H kvs xs) (k:List Key) {y:V} {u:Value} (ry:RelV y u) :
  KT H (kvs.map fun kv=>if kv.1=k then (kv.1,y) else kv) (xs.map (putAt k u)):=by
 induction r with
 | nil=>exact .nil
 | @cons p q ps qs h t ih =>
   rw [List.map_cons,List.map_cons];refine .cons ?_ ih;obtain ⟨h1,h2,h3⟩:=h;unfold putAt
   by_cases e:p.1=k
   ·rw [if_pos e,if_pos (h1.symm.trans e)];exact ⟨h1,h2,ry⟩
   ·rw [if_neg e,if_neg (fun z=>e (h1.trans z))];exact ⟨h1,h2,h3⟩
theorem KT.put {H:Hp} {kvs:List (List Key×V)} {xs:List (List Key×Addr×Value)} (r:KT H kvs xs) (k:List Key) {b:Addr} {y:V} {u:Value} (hb:H b=some (.tup (k.map kV))) (ry:RelV y u) :
  KT H (putK kvs k y) (storedH xs k b u):=by
 have e:(kvs.any fun kv=>decide (kv.1=k))=(atKey xs k).isSome:=by
  rw [zgh,(r.val k).isSome_eq,Option.isSome_map]
 unfold putK storedH;rw [e]
 by_cases q:(atKey xs k).isSome=true
 ·rw [if_pos q,if_pos q];exact r.repl k ry
 ·rw [if_neg q,if_neg q];exact Paired.snoc r ⟨rfl,hb,ry⟩
theorem KT.keeps {H H':Hp} {kvs:List (List Key×V)} {xs:List (List Key×Addr×Value)} (r:KT H kvs xs) (ht:∀ b ys,H b=some (.tup ys)→H' b=some (.tup ys)):KT H' kvs xs :=
 Paired.mapP r fun _ _ z=>⟨z.1,ht _ _ z.2.1,z.2.2⟩
section
variable {P:Program} {w:World} {H:Hp} {h:Heap} {a:Addr}
theorem zkA {u:HO} (ok:HOk P w H h) (e:Rd H a u):zbl P w H h a u:=e.ok ok
theorem zjF {kvs:List (Key×V)} (ok:HOk P w H h) (e:Rd H a (.dK kvs)):kvs.length≤sizeLine∧(a == sysModules)=false∧∃ vs,KV kvs vs∧h.DictOf (za9 P w) a vs :=
 show zbl P w H h a (.dK kvs) from zkA ok e
theorem zlz {kvs:List (Key×V)} (ok:HOk P w H h) (e:H a=some (.dK kvs)):kvs.length≤sizeLine∧(a == sysModules)=false∧∃ vs,KV kvs vs∧h.DictOf (za9 P w) a vs:=zjF ok (.inl e)
theorem zht {ks:List Key} (ok:HOk P w H h) (e:H a=some (.tup (ks.map kV))):(tupleKind (za9 P w)).is h ks a:=by
 obtain ⟨_,its,r,o,h1,h2,n,h3⟩:=(show zbl P w H h a (.tup (ks.map kV)) from ok a _ e)
 exact ⟨o,its.toArray,n,h1,h2,h3,by simpa using ze3 r⟩
theorem zjG {kvs:List (List Key×V)} (ok:HOk P w H h) (e:Rd H a (.dT kvs)):kvs.length≤sizeLine∧(a == sysModules)=false ∧
  ∃ xs,KT H kvs xs∧h.DictOfH (tupleKind (za9 P w)) a xs:=by
 obtain ⟨z,y,xs,r,o,es,ep,h1,h2,h3,h4,h5⟩:=(show zbl P w H h a (.dT kvs) from zkA ok e)
 refine ⟨z,y,xs,r,o,es,ep,h1,h2,h3,h4,fun x hx=>?_,h5⟩;have all:∀ {l:List (List Key×V)} {m:List (List Key×Addr×Value)},KT H l m→∀ x∈m,(tupleKind (za9 P w)).is h x.1 x.2.1:=by
  intro l m q
  induction q with
  | nil=>intro x hx;exact nomatch hx
  | @cons p q ps qs hq t ih =>
    intro x hx;rcases List.mem_cons.mp hx with e | hx
    ·subst e;exact zht ok (by rw [← hq.1];exact hq.2.1)
    ·exact ih x hx
 exact all r x hx
theorem zlA {kvs:List (List Key×V)} (ok:HOk P w H h) (e:H a=some (.dT kvs)):kvs.length≤sizeLine∧(a == sysModules)=false ∧
  ∃ xs,KT H kvs xs∧h.DictOfH (tupleKind (za9 P w)) a xs:=zjG ok (.inl e)
end
def DGet (H:Hp) (a:Addr) (y:V) (r:Option V):Prop :=
 (∃ kvs k,Rd H a (.dK kvs)∧y=kV k∧r=valV kvs k)∨∃ kvs k b,Rd H a (.dT kvs)∧y=.ref b∧H b=some (.tup (k.map kV))∧r=valV kvs k
def DPut (H:Hp) (a:Addr) (y v:V) (H':Hp):Prop :=
 (∃ kvs k,H a=some (.dK kvs)∧y=kV k∧kvs.length < sizeLine∧H'=upd H a (.dK (putK kvs k v))) ∨
 ∃ kvs k b,H a=some (.dT kvs)∧y=.ref b∧H b=some (.tup (k.map kV))∧kvs.length < sizeLine∧H'=upd H a (.dT (putK kvs k v))
theorem DGet.k {H:Hp} {a:Addr} {kvs:List (Key×V)} {k:Key} (e:H a=some (.dK kvs)):DGet H a (kV k) (valV kvs k):=.inl ⟨kvs,k,.inl e,rfl,rfl⟩
section
variable {X:Cx} {pins:List (Addr×Obj)} {σ:St} {H:Hp} {s:Shared} {a:Addr} {y v:V} {u r:Value} {o:Option V} {A:Around} {E:Value→Shared→Prop}
theorem Inv.big (I:Inv X pins σ H s):sysModules < s.heap.objs.size:=by
 have h:mainGlobals < s.heap.objs.size:=(I.mod.glob.keeps I.bk).lt;exact Nat.lt_trans (by decide) h
theorem zhu {Q:Value→Shared→Prop} (hu:A.units+1 < cLine) (I:Inv X pins σ H s) (g:DGet H a y (some v)) (ry:RelV y u) (h:∀ w' s',Inv X pins σ H s'→RelV v w'→Q w' s') :
  wpAny (model X.prog X.w) A (getItem (.ref a) u) Q E s:=by
 rcases g with ⟨kvs,k,e,ey,l⟩ | ⟨kvs,k,b,e,ey,eb,l⟩
 ·subst ey;obtain ⟨z,hd,vs,rel,dd⟩:=zjF I.hok e;obtain ⟨w',hw,rw'⟩:=RelO.some_of (v:=v) (o:=valueAt vs k) (by rw [l];exact rel.val k);exact wpAny_getItem_of (zjE ry) dd.mapOf hw (h w' _ (I.tok _) rw')
 ·subst ey
  cases (show u=Value.ref b from ry)
  obtain ⟨z,hd,xs,rel,dd⟩:=zjG I.hok e;obtain ⟨w',hw,rw'⟩:=RelO.some_of (v:=v) (o:=(atKey xs k).map (·.2)) (by rw [l];exact rel.val k);obtain ⟨p,hp,hp2⟩:=Option.map_eq_some_iff.mp hw;refine wpAny_getItem_heap (tupleKind_room_in1 hu) (zht I.hok eb) dd hp ?_;rw [hp2];exact h w' _ (I.tok _) rw'
theorem zhv {h':Heap} {t':Nat} {ob:HO} (I:Inv X pins σ H s) (mu:Mut (H a)) (hs:Heap.SameBut a s.heap h') (he:∃ q,h'.get? a=some q) (new:zbl X.prog X.w (upd H a ob) h' a ob) :
  Inv X pins σ (upd H a ob) { s with heap:=h',toks:=t' } :=
 I.write (x:=a) (e:=a) mu (.inl rfl) (fun b q hb z=>(hs.2 b hb).trans z) he new
theorem zkB {P:Program} {w:World} {H':Hp} {h':Heap} {kvs:List (Key×V)} {vs:List (Key×Value)} (z:kvs.length≤sizeLine) (hd:(a == sysModules)=false) (rel:KV kvs vs) (dd:h'.DictOf (za9 P w) a vs) :
  zbl P w H' h' a (.dK kvs):=⟨z,hd,vs,rel,dd⟩
theorem zhw {H':Hp} {Q:Unit→Shared→Prop} (hu:A.units+1 < cLine) (I:Inv X pins σ H s) (g:DPut H a y v H') (ry:RelV y u) (rv:RelV v r) (h:∀ s',Inv X pins σ H' s'→Q () s') :
  wpAny (model X.prog X.w) A (setItem (.ref a) u r) Q E s:=by
 rcases g with ⟨kvs,k,e,ey,l,eH⟩ | ⟨kvs,k,b,e,ey,eb,l,eH⟩
 ·subst ey eH;obtain ⟨z,hd,vs,rel,dd⟩:=zlz I.hok e;have hz:vs.length≤sizeLine:=by rw [← rel.length];exact z
  have hl:(putK kvs k v).length≤sizeLine:=by have:=zdA kvs k v;omega
  refine wpAny_setItem_pairs (hsz:=hz) (zjE ry) dd fun h' dd' hs=>h _ ?_;have he:∃ q,h'.get? a=some q:=let ⟨q,_,_,hq,_⟩:=dd';⟨q,hq⟩;exact zhv I (by rw [e];exact True.intro) hs he (zkB hl hd (rel.put k rv) dd')
 ·subst ey eH
  cases (show u=Value.ref b from ry)
  obtain ⟨z,hd,xs,rel,dd⟩:=zlA I.hok e;have hz:xs.length≤sizeLine:=by rw [← Paired.length rel];exact z
  have hl:(putK kvs k v).length≤sizeLine:=by have:=zdA kvs k v;omega
  refine wpAny_setItem_heap (hsz:=hz) (tupleKind_room_in1 hu) (zht I.hok eb) dd fun h' dd' hs=>h _ ?_;obtain ⟨q,es,ep,hq,h2,h3,h4,_,h5⟩:=dd';refine zhv I (by rw [e];exact True.intro) hs ⟨q,hq⟩ ⟨hl,hd,_,(rel.put k eb rv).keeps fun c ys ec=>?_,q,es,ep,hq,h2,h3,h4,h5⟩;rw [zaJ (zlx ec e (fun z=>nomatch z))];exact ec
end
section
variable {X:Cx} {pins:List (Addr×Obj)} {σ:St} {H:Hp} {s:Shared} {a:Addr} {kvs:List (Key×V)} {k:Key} {u:Value} {A:Around} {E:Value→Shared→Prop}
end
def NoSl (i:Expr):Prop:=∀ ov iv,subscripted i false ov iv=operate [ov,iv] (getItem ov iv)
theorem zjH {prog:Program} {w:World} {A:Around} {E:Value→Shared→Prop} {s:Shared} {env:Env} {value slice:Expr} {pos:Pos} {T id:String} {Q:Value→Shared→Prop}
  (hl:typeLookup (.type T) "__getitem__" = pure (some (.builtin id))) (hs:NoSl slice)
  (h:wpAny (model prog w) A (eval value env) (fun o s₁=>wpAny (model prog w) A (eval slice env) (fun i s₂=>s₂.TypeIs o T∧wpAny (model prog w) A (getItem o i) Q E s₂) E s₁) E s) :
  wpAny (model prog w) A (eval (.Subscript value slice pos) env) Q E s:=by
 refine Subscript_ (wpAny_mono h (fun o s₁ h₁=>wpAny_mono h₁ (fun i s₂ h₂=>?_) fun _ _ x=>x) fun _ _ x=>x);obtain ⟨hT,h₂⟩:=h₂;unfold subscriptTail;refine wpAny_bind ?_;rw [getitemInPython_of_ne hT.not_modules];refine wpAny_bind (wpAny_specialOf hT hl ?_);have fin:wpAny (model prog w) A (subscripted slice false o i) (fun r s₃=>wpAny (model prog w) A (letTemporaryGo value o r >>= fun _=>pure r) Q E s₃) E s₂:=by
  rw [hs o i];exact wpAny_operating (wpAny_mono h₂ (fun r s₃ h₃=>wpAny_bind (wpAny_letTemporaryGo (wpAny_pure h₃))) fun _ _ x=>x)
 first
  | exact wpAny_pure (wpAny_bind fin)
  | exact wpAny_bind (wpAny_pure (wpAny_bind fin))
  | exact wpAny_bind fin
theorem zfK {X:Cx} {pins:List (Addr×Obj)} {σ:St} {H:Hp} {s:Shared} {a:Addr} {y:V} {o:Option V} (I:Inv X pins σ H s) (g:DGet H a y o):s.TypeIs (.ref a) "dict":=by
 rcases g with ⟨kvs,k,e,_,_⟩ | ⟨kvs,k,b,e,_,_,_⟩
 ·obtain ⟨_,_,vs,_,dd⟩:=zjF I.hok e;exact dd.typeIs
 ·obtain ⟨_,_,xs,_,dd⟩:=zjG I.hok e;exact dd.typeIs
def zkC (td ty:TE):TE:=fun σ H Q=>td σ H fun x H1=>ty σ H1 fun y H2=>∃ a v,x=.ref a∧DGet H2 a y (some v)∧Q v H2
def zlB (td ty tv:TE):TS:=fun D σ H=>tv σ H fun v H1=>td σ H1 fun x H2=>ty σ H2 fun y H3=>∃ a H4,x=.ref a∧DPut H3 a y v H4∧D.nx σ H4
section
variable {X:Cx} {o i e value:Expr} {pos pos' tpos:Pos} {td ty tv:TE}
theorem zjI (hu:X.A.units+1 < cLine) (ho:PE X o td) (hi:PE X i ty) (hs:NoSl i):PE X (.Subscript o i pos) (zkC td ty):=by
 intro pins s σ H Q I h;refine zjH PySem.F.slot_dict_getitem.lookup hs (thn (ho pins s σ H _ I h) fun u s1 ⟨x,H1,I1,rx,q1⟩=>thn (hi pins s1 σ H1 _ I1 q1) fun iv s2 ⟨y,H2,I2,ry,a,v,ex,g,q2⟩=>?_);subst ex;obtain rfl:u=Value.ref a:=rx;exact ⟨zfK I2 g,zhu hu I2 g ry fun w' s3 I3 rw'=>⟨v,H2,I3,rw',q2⟩⟩
theorem zjJ (hu:X.A.units+1 < cLine) (ho:PE X o td) (hi:PE X i ty) (hv:PE X value tv) (hs:swapsWith value (some (.Subscript o i pos')) pos.line X.env=pure false) :
  PS X (.Assign [.Subscript o i pos'] value pos) (zlB td ty tv):=by
 intro pins s σ H D I h;refine wpAny_Assign_Subscript (thn (hv pins s σ H _ I h) fun r s1 ⟨v,H1,I1,rv,q1⟩=>thn (ho pins s1 σ H1 _ I1 q1) fun u s2 ⟨x,H2,I2,rx,q2⟩=>thn (hi pins s2 σ H2 _ I2 q2) fun iv s3 ⟨y,H3,I3,ry,a,H4,ex,g,q3⟩=>?_) hs;subst ex;obtain rfl:u=Value.ref a:=rx;exact zhw hu I3 g ry rv fun s4 I4=>⟨σ,H4,I4,q3⟩
end
theorem ziB {P:Program} {w:World} {H:Hp} (h:Heap) (hb:sysModules < h.objs.size):zbl P w H (h.push { cls:=.type "dict",data:=.dict #[] }) h.objs.size (.dK []) :=
 ⟨Nat.zero_le _,beq_eq_false_iff_ne.mpr (Ne.symm (Nat.ne_of_lt hb)),[],.nil,Heap.DictOf.new h⟩
def tDNewK:TE:=fun _ H Q=>∀ p,H p=none→Q (.ref p) (upd H p (.dK []))
section
variable {X:Cx} {pos:Pos}
theorem pe_dnewK:PE X (.Dict [] [] pos) tDNewK:=fun pins s σ H Q I h =>
 wpAny_Dict_empty ⟨.ref s.heap.objs.size,_,I.laid (a:=s.heap.objs.size) (o:=.dK []) (t':=s.toks) (fun _ _ q=>Heap.get?_push_of_some _ q) (Nat.le_refl _) (ziB s.heap I.big),rfl,h _ (I.hok.fresh (Nat.le_refl _))⟩
end
end L2
namespace L2
open PySem PySem.Spec PyProof.Rows
section
variable {prog:Program} {w:World} {A:Around} {R:Result -> Shared -> Prop} {s:Shared}
theorem ze4 {elt target iter:Expr} {ifs:List Expr} {scope:Scope} {pos:Pos} {it acc:Value} {env:Env} (I:Nat→Shared→Prop)
  (turn:∀ n s,I n s→wpAny (model prog w) A (pyNext it) (fun r s1=>match r with
   | none=>R (.ok .next) s1
   | some v=>wpAny (model prog w) A (letOwnedTupleGo target it v) (fun _ s1'=>wpAny (model prog w) A (assign target env v) (fun _ s2 =>
      wpAny (model prog w) A (forIn ifs true fun c r=>if r=true then do let ok ← isTrue c env (eval c env);pure (ForInStep.yield ok) else pure (ForInStep.yield r)) (fun ok s3 =>
       if ok=true then wpAny (model prog w) A (eval elt env) (fun x s4 =>
        wpAny (model prog w) A (call (.builtin "list.append") [acc,x]) (fun _ s5=>∃ m,m < n∧I m s5) (fun _ _=>False) s4) (fun _ _=>False) s3
       else ∃ m,m < n∧I m s3) (fun _ _=>False) s2) (fun _ _=>False) s1') (fun _ _=>False) s1) (fun _ _=>False) s)
  (n:Nat) (h:I n s) :
  codeAny (model prog w) A (.compLoop (.ListComp elt [⟨target,iter,ifs,0⟩] scope pos) 0 it acc env) R s:=by
 refine codeAny_loop rfl I (fun n s hI=>?_) n h;show wpAny _ A ((compTurn (.ListComp elt [⟨target,iter,ifs,0⟩] scope pos) 0 it acc env).onRaise (fun x=>do noteFrame x env;theTreesLotGoes x)) _ _ s;refine wpAny_noted ?_;rw [compTurn_list];refine wpAny_bind (wpAny_standAt (wpAny_bind (wpAny_mono (turn n s hI) (fun r s1 h1=>?_) fun _ _ z=>z.elim)))
 cases r with
 | none=>exact wpAny_pure h1
 | some v =>
   refine wpAny_bind (wpAny_mono h1 (fun _ s1' h1'=>?_) fun _ _ z=>z.elim);refine wpAny_bind (wpAny_mono h1' (fun _ s2 h2=>wpAny_bind (wpAny_mono h2 (fun ok s3 h3=>?_) fun _ _ z=>z.elim)) fun _ _ z=>z.elim)
   cases ok with
   | false=>exact wpAny_pure ⟨rfl,h3⟩
   | true =>
     exact wpAny_bind (wpAny_bind (wpAny_mono h3 (fun x s4 h4=>wpAny_bind (wpAny_mono h4 (fun _ s5 h5=>wpAny_pure (wpAny_pure ⟨rfl,h5⟩)) fun _ _ z=>z.elim)) fun _ _ z=>z.elim))
end
def PTs (X:Cx) (ifs:List Expr) (t:TT):Prop :=
 ∀ (pins:List (Addr×Obj)) (s:Shared) (σ:St) (H:Hp) (Q:Bool→Hp→Prop),Inv X pins σ H s→t σ H Q →
  wpAny (model X.prog X.w) X.A (forIn ifs true fun c r=>if r=true then do let ok ← isTrue c X.env (eval c X.env);pure (ForInStep.yield ok) else pure (ForInStep.yield r)) (TP X pins σ Q) X.xe s
def tTT:TT:=fun _ H Q=>Q true H
theorem za5 {X:Cx}:PTs X [] tTT:=fun pins s σ H Q I h=>wpAny_tests_nil ⟨H,I,h⟩
theorem zfL {X:Cx} {c:Expr} {t:TT} (h:PT X c t):PTs X [c] t:=fun pins s σ H Q I q=>wpAny_tests_one (h pins s σ H Q I q)
def Cx.comp (X:Cx) (scope:Scope) (cl:List (Str×Addr)) (C:Addr) (N:List Str) (s:Shared) (H:Hp) (fp:List Addr):Cx where
 prog:=X.prog
 w:=X.w
 K:=X.K
 mg:=X.mg
 base:=X.base
 A:=X.A
 N:=N
 s₀:=s
 H₀:=H
 env:=compEnvC scope cl C X.env
 outer:=X.stack
 stack:=X.stack
 ex:=fp
 fn:=fun _=>false
 calm:=X.calm
 pn:=[]
 xe:=fun _ _=>False
def zbe (names:List (Str×NameKind)) (env:Env) (acc:List (Str×Addr)):List (Str×Addr) :=
 names.foldl (fun cs x=>if x.2 == .free then match env.cells.lookup x.1 with | some c=>(x.1,c)::cs | none=>cs else cs) acc
theorem zcH {scope:Scope} {env:Env} (h:∀ x∈scope.names,x.2=.free→∃ c,env.cells.lookup x.1=some c):closureFor scope env=pure (zbe scope.names env []):=by
 have go:∀ (names:List (Str×NameKind)) (acc:List (Str×Addr)),(∀ x∈names,x.2=.free→∃ c,env.cells.lookup x.1=some c) →
   (forIn (m:=Sem) names acc fun x r=>if (x.2 == NameKind.free)=true then do let y ← cellOf env x.1;pure (ForInStep.yield ((x.1,y)::r)) else pure (ForInStep.yield r))=pure (zbe names env acc):=by
  intro names
  induction names with
  | nil=>intro acc _;rfl
  | cons x r ih =>
    intro acc hx;obtain ⟨n,k⟩:=x;rw [List.forIn_cons];have ihr:=fun acc=>ih acc fun y hy=>hx y (List.mem_cons_of_mem _ hy)
    by_cases hk:k=.free
    ·subst hk;obtain ⟨c,hc⟩:=hx (n,.free) List.mem_cons_self rfl;have e:cellOf env n=pure c:=by unfold cellOf;rw [show env.cells.lookup n=some c from hc]
     have e2:zbe ((n,NameKind.free)::r) env acc=zbe r env ((n,c)::acc):=by
      unfold zbe;rw [List.foldl_cons];simp only [beq_self_eq_true,if_true];rw [show env.cells.lookup n=some c from hc]
     rw [e2,← ihr];simp only [beq_self_eq_true,if_true,e,pure_bind]
    ·have hb:(k == NameKind.free)=false:=by simpa using hk
     have e2:zbe ((n,k)::r) env acc=zbe r env acc:=by
      unfold zbe;rw [List.foldl_cons];simp only [hb,Bool.false_eq_true,if_false]
     rw [e2,← ihr];simp only [hb,Bool.false_eq_true,if_false,pure_bind]
 unfold closureFor;have:=go scope.names [] h;simp only [pure_bind,bind_pure] at this ⊢;exact this
theorem zeg {env:Env}:∀ (names:List (Str×NameKind)) (acc:List (Str×Addr)),(∀ x c,acc.lookup x=some c→env.cells.lookup x=some c)→∀ x c,(zbe names env acc).lookup x=some c→env.cells.lookup x=some c:=by
 intro names
 induction names with
 | nil=>intro acc h x c e;exact h x c e
 | cons y r ih =>
   intro acc h x c e;unfold zbe at e;rw [List.foldl_cons] at e;refine ih _ ?_ x c e;intro z d hz
   by_cases hk:(y.2 == NameKind.free)=true
   ·rw [if_pos hk] at hz
    cases hc:env.cells.lookup y.1 with
    | none=>rw [hc] at hz;exact h z d hz
    | some a =>
      rw [hc] at hz;simp only [List.lookup_cons] at hz
      by_cases hzy:(z == y.1)=true
      ·rw [hzy] at hz;have:z=y.1:=by simpa using hzy
       rw [this,hc];exact hz
      ·have:(z == y.1)=false:=by simpa using hzy
       rw [this] at hz;exact h z d hz
   ·rw [if_neg hk] at hz;exact h z d hz
theorem zeh {env:Env}:∀ (names:List (Str×NameKind)) (acc:List (Str×Addr)) (x:Str),((∃ c,acc.lookup x=some c)∨((x,NameKind.free)∈names∧∃ c,env.cells.lookup x=some c))→∃ c,(zbe names env acc).lookup x=some c:=by
 intro names
 induction names with
 | nil=>intro acc x h;rcases h with h | h;exact h;exact absurd h.1 (by simp)
 | cons y r ih =>
   intro acc x h;unfold zbe;rw [List.foldl_cons];refine ih _ x ?_
   by_cases hk:(y.2 == NameKind.free)=true
   ·rw [if_pos hk]
    cases hc:env.cells.lookup y.1 with
    | none =>
      rcases h with h | ⟨h,h2⟩
      ·exact .inl h
      ·rcases List.mem_cons.mp h with e | e
       ·subst e;rw [hc] at h2;obtain ⟨_,h2⟩:=h2;cases h2
       ·exact .inr ⟨e,h2⟩
    | some a =>
      simp only [List.lookup_cons]
      by_cases hzy:(x == y.1)=true
      ·exact .inl ⟨a,by rw [hzy]⟩
      ·have hf:(x == y.1)=false:=by simpa using hzy
       rw [hf];rcases h with h | ⟨h,h2⟩
       ·exact .inl h
       ·rcases List.mem_cons.mp h with e | e
        ·subst e;simp at hf
        ·exact .inr ⟨e,h2⟩
   ·rw [if_neg hk];rcases h with h | ⟨h,h2⟩
    ·exact .inl h
    ·rcases List.mem_cons.mp h with e | e
     ·subst e;simp at hk
     ·exact .inr ⟨e,h2⟩
def capS (own:Nat) (js:List Nat) (σ:St):St:=List.replicate own none++js.map fun j=>(σ[j]?).getD none
def zgB (wi:TI) (own:Nat) (js:List Nat) (g:TG) (tc:TT) (te:TE):TE:=fun σ H Q=>wi σ H fun J H1=>∀ p,H1 p=none →
 ∃ W:Nat→Nat→St→Hp→Prop,(∃ m,W 0 m (capS own js σ) (upd H1 p (.lst [])))∧∀ i m σc H,W i m σc H →
  (J.stop i H∧Q (.ref p) H)∨(J.go i H∧∃ N:St→Hp→Prop,(∀ σ' H',N σ' H'→∃ m',m' < m∧W (i+1) m' σ' H')∧∀ x H',J.yld i H x H' →
   g x σc H' fun σ2 H2=>tc σ2 H2 fun b H3=>if b=true then te σ2 H3 fun v H4=>∃ ys,H4 p=some (.lst ys)∧ys.length < sizeLine∧N σ2 (upd H4 p (.lst (ys++[v]))) else N σ2 H3)
structure zca (X:Cx) (scope:Scope) (N:List Str) (own:Nat) (js:List Nat):Prop where
 kind:scope.kind=.function
 nocell:∀ y∈scope.names,y.2≠.cell
 nodup:∀ y∈scope.names,y.2=.local→scope.names.lookup y.1=some .local
 free:∀ y∈scope.names,y.2=.free→X.env.kindOf y.1=some .cell∨X.env.kindOf y.1=some .free
 len:N.length=own+js.length
 cap:∀ (i:Nat) (j:Nat),js[i]? = some j→N[own+i]? = X.N[j]?∧∀ x,X.N[j]? = some x→scope.names.lookup x=some .free∧Vis X.env.scope x∧X.env.kindOf x≠some .local
section
variable {X:Cx} {tg elt iter:Expr} {ifs:List Expr} {scope:Scope} {pos:Pos} {N:List Str} {own:Nat} {js:List Nat} {wi:TI} {g:TG} {tc:TT} {te:TE}
theorem zbH {env:Env} {names:List (Str×NameKind)} {x:Str} {k:NameKind} (hk:k=.cell∨k=.free) (hnc:∀ y∈names,y.2≠.cell)
  (h:(names.map fun (n,k)=>if (k == NameKind.free && env.scope.kind == .function && env.kindOf n == some .cell) then (n,NameKind.cell) else (n,k)).lookup x=some k):(x,NameKind.free)∈names:=by
 have:=PySem.mem_of_lookup h;obtain ⟨⟨n,k'⟩,hm,e⟩:=List.mem_map.mp this;dsimp only at e;split at e
 ·rename_i hc
  cases e
  have:k'=.free:=by
   simp only [Bool.and_eq_true,beq_iff_eq] at hc;exact hc.1.1
  rw [← this];exact hm
 ·cases e
  rcases hk with rfl | rfl
  ·exact absurd rfl (hnc _ hm)
  ·exact hm
theorem zbp {env:Env}:∀ {names:List (Str×NameKind)} {x:Str},names.lookup x=some .free →
  (names.map fun (n,k)=>if (k == NameKind.free && env.scope.kind == .function && env.kindOf n == some .cell) then (n,NameKind.cell) else (n,k)).lookup x=some .local→False
 | [],_,h,_=>by simp at h
 | (n,k)::r,x,h,h'=>by
  have ih:=@zbp env r x
  cases hx:x == n with
  | true =>
    simp only [List.lookup_cons,hx] at h
    cases h
    rw [List.map_cons] at h';dsimp only at h';split at h' <;> simp [List.lookup_cons,hx] at h'
  | false =>
    simp only [List.lookup_cons,hx] at h;rw [List.map_cons] at h';dsimp only at h';split at h' <;> simp only [List.lookup_cons,hx] at h' <;> exact ih h h'
theorem ziC {pins:List (Addr×Obj)} {σ:St} {H:Hp} {s:Shared} {fp:List Addr} {h1:Heap} (S:zca X scope N own js) (I:Inv X pins σ H s) (hf:∀ b∈fp,FpOk X pins H b) (hfo:∀ b∈fp,b < s.heap.objs.size)
  (C p:Addr) (hp:p=s.heap.objs.size) (hC:C=s.heap.objs.size+1) (hns:h1.Ns C fun _=>none) (hkeep:∀ b o,s.heap.get? b=some o→h1.get? b=some o)
  (hacc:h1.get? p=some { cls:=.type "list",data:=.seq #[] 0 }) (tk:Nat) :
  Inv (X.comp scope (zbe scope.names X.env []) C N s H fp) [] (capS own js σ) (upd H p (.lst [])) { s with heap:=h1,toks:=tk }:=by
 have sub:=zeg (env:=X.env) scope.names [] (fun x c e=>by simp at e);have hHp:H p=none:=I.hok.fresh (by rw [hp];exact Nat.le_refl _);have hHC:H C=none:=I.hok.fresh (by rw [hC];exact Nat.le_succ _);have hpC:C≠p:=by rw [hp,hC];exact Nat.succ_ne_self _
 have cellLt:∀ x c,X.env.cells.lookup x=some c→c < s.heap.objs.size:=fun x c e=>by
  obtain ⟨v,q⟩:=I.cell x c e;exact q.lt
 have nop:∀ q:Addr×Obj,q∉(X.comp scope (zbe scope.names X.env []) C N s H fp).pn++([]:List (Addr×Obj)):=fun q z=>absurd (show q∈([]:List (Addr×Obj)) from z) (by simp);refine ⟨⟨I.ok.mod,S.kind,I.ok.glob,I.ok.blt,by rw [show (X.comp scope (zbe scope.names X.env []) C N s H fp).env.locals=C from rfl,hC];exact Nat.le_succ _,?_,?_,fun y c z=>absurd (show false=true from z) (by decide),I.ok.hd,I.ok.frames,.inl rfl,?_,fun b o e=>I.bs b o e,Nat.le_trans I.ok.bsz I.sz,?_,?_,I.stack,I.stkFree⟩,
  rfl,I.bare,Un.laid hkeep (by rw [hp];exact Nat.le_refl _) hHp,⟨_,hns,?_⟩,?_,?_,?_,fun q hq=>absurd hq (nop q),?_,?_⟩
 ·intro x y c e1 e2;exact I.ok.inj x y c (sub x c e1) (sub y c e2)
 ·intro x hx;have hm:(x,NameKind.free)∈scope.names:=by
   rcases hx with hx | hx
   ·exact zbH (.inl rfl) S.nocell hx
   ·exact zbH (.inr rfl) S.nocell hx
  exact zeh scope.names [] x (.inr ⟨hm,I.ok.has x (S.free _ hm rfl)⟩)
 ·intro b hb;obtain ⟨f0,f1,f2,f3,f4,f5⟩:=hf b hb;refine ⟨fun e=>?_,fun x c e=>f4 x c (sub x c e)⟩;have e':b=C:=e;have:=hfo b hb;rw [e',hC] at this;exact absurd this (Nat.not_lt.mpr (Nat.le_succ _))
 ·intro b o e hb;obtain ⟨f0,f1,f2,f3,f4,f5⟩:=hf b hb;rcases f3 with z | z
  ·exact I.ok.noex b o e z
  ·exact absurd (Nat.lt_of_lt_of_le (Heap.lt_size (I.ok.bs b o e).1) z) (Nat.lt_irrefl _)
 ·intro b hb z;obtain ⟨f0,f1,f2,f3,f4,f5⟩:=hf b hb;rcases List.mem_cons.mp (I.stkSub b z) with e | e
  ·exact f1 e
  ·exact f2 e
 ·intro i x v h1' h2 h3;have hlen:(capS own js σ).length=own+js.length:=by simp [capS]
  have hio:own≤i:=by
   by_cases hi:i < own
   ·unfold capS at h2;rw [List.getElem?_append_left (by simpa using hi),List.getElem?_replicate,if_pos hi] at h2
    cases h2
   ·omega
  obtain ⟨k,rfl⟩:∃ k,i=own+k:=⟨i-own,by omega⟩
  have e1:(js.map fun j=>(σ[j]?).getD none)[k]? = some (some v):=by
   unfold capS at h2;rw [List.getElem?_append_right (by simp)] at h2;simpa using h2
  rw [List.getElem?_map] at e1
  cases ej:js[k]? with
  | none=>rw [ej] at e1;cases e1
  | some j =>
    rw [ej] at e1;have e2:(σ[j]?).getD none=some v:=Option.some.inj e1;have e3:σ[j]? = some (some v):=by
     cases q:σ[j]? with
     | none=>rw [q] at e2;cases e2
     | some z=>rw [q] at e2;exact congrArg some e2
    obtain ⟨c1,c2⟩:=S.cap k j ej;have hN:X.N[j]? = some x:=by rw [← c1];exact h1'
    obtain ⟨d1,d2,d3⟩:=c2 x hN;obtain ⟨m,_,hl⟩:=I.loc;obtain ⟨u,r,l⟩:=hl j x v hN e3 d2;refine ⟨u,r,?_⟩;rcases l with ⟨l,_⟩ | ⟨_,c,ec,o,ho,hd⟩
    ·exact absurd l d3
    ·obtain ⟨c',hc'⟩:=zeh (env:=X.env) scope.names [] x (.inr ⟨PySem.mem_of_lookup d1,c,ec⟩);have e4:=sub x c' hc';rw [ec] at e4
     cases e4
     refine .inr ⟨?_,c,hc',o,hkeep c o ho,hd⟩;rcases h3 with z | z | z
     ·exact (zbp d1 z).elim
     ·exact .inl z
     ·exact .inr z
 ·intro x c e;obtain ⟨v,o,ho,hd⟩:=I.cell x c (sub x c e);exact ⟨v,o,hkeep c o ho,hd⟩
 ·rw [show (X.comp scope (zbe scope.names X.env []) C N s H fp).env.locals=C from rfl,zaJ hpC];exact hHC
 ·intro x c e;rw [zaJ (by rw [hp];exact Nat.ne_of_lt (cellLt x c (sub x c e)))];exact I.freeC x c (sub x c e)
 ·exact I.hok.laid hkeep (by rw [hp];exact Nat.le_refl _) ⟨Nat.zero_le _,[],0,.nil,hacc⟩
 ·show (capS own js σ).length=N.length;rw [S.len];simp [capS]
theorem zei {pins:List (Addr×Obj)} {σ:St} {H:Hp} {s:Shared} {E:Value→Shared→Prop} {it:Addr} {fp:List Addr} {tn:Nat→Heap→Prop} {J:It} {Q:VK} {RR:Value→Addr→Result→Shared→Prop}
  (S:zca X scope N own js) (hc:X.calm=true) (I:Inv X pins σ H s) (T:Turn X.prog X.w X.K tg J fp it tn) (st:tn 0 s.heap) (hf:∀ b∈fp,FpOk X pins H b)
  (hg:∀ cl C s H fp,PG (X.comp scope cl C N s H fp) tg g) (hts:∀ cl C s H fp,PTs (X.comp scope cl C N s H fp) ifs tc) (he:∀ cl C s H fp,PE (X.comp scope cl C N s H fp) elt te)
  (hq:∀ p,H p=none→∃ W:Nat→Nat→St→Hp→Prop,(∃ m,W 0 m (capS own js σ) (upd H p (.lst [])))∧∀ i m σc H,W i m σc H →
   (J.stop i H∧Q (.ref p) H)∨(J.go i H∧∃ N:St→Hp→Prop,(∀ σ' H',N σ' H'→∃ m',m' < m∧W (i+1) m' σ' H')∧∀ x H',J.yld i H x H' →
    g x σc H' fun σ2 H2=>tc σ2 H2 fun b H3=>if b=true then te σ2 H3 fun v H4=>∃ ys,H4 p=some (.lst ys)∧ys.length < sizeLine∧N σ2 (upd H4 p (.lst (ys++[v]))) else N σ2 H3))
  (hRR:∀ p C s' H' m,C=s.heap.objs.size+1→s'.heap.Ns C m→Inv X pins σ H' s'→H' C=none→Q (.ref p) H'→RR (.ref p) C (.ok .next) s') :
  wpAny (model X.prog X.w) X.A (newList []) (fun acc s3=>wpAny (model X.prog X.w) X.A (newFunctionEnv scope X.env.globals (zbe scope.names X.env []) [] X.env.qual none .none (some X.env)) (fun cenv s4 =>
   codeAny (model X.prog X.w) X.A (.compStart (.ListComp elt [⟨tg,iter,ifs,0⟩] scope pos) 0 (.ref it) acc { cenv with scope:=relabel scope X.env }) (RR acc cenv.locals) s4) E s3) E s:=by
 refine wpAny_newObj_type (wpAny_newFunctionEnv S.nocell (by intro y hy;simp at hy) (fun h1 hns1 hsb1=>?_) S.kind);dsimp only at hns1 hsb1 ⊢;generalize hH2:s.heap.push { cls:=.type "list",dict:=none,data:=.seq ([]:List Value).toArray }=H2 at hns1 hsb1 ⊢;have hC:H2.objs.size=s.heap.objs.size+1:=by rw [← hH2,Heap.size_push]
 have old:∀ b o,s.heap.get? b=some o→h1.get? b=some o:=fun b o e=>hsb1.extBut b o (by rw [hC];exact Nat.ne_of_lt (Nat.lt_succ_of_lt (Heap.lt_size e))) (Heap.get?_push_of_some _ (hH2▸Heap.get?_push_of_some _ e));have hacc:h1.get? s.heap.objs.size=some { cls:=.type "list",data:=.seq #[] 0 }:=hsb1.extBut _ _ (by rw [hC];exact Nat.ne_of_lt (Nat.lt_succ_self _)) (Heap.get?_push_of_some _ (hH2▸Heap.get?_push_size _ rfl));have hfo:∀ b∈fp,b < s.heap.objs.size:=fun b hb=>by
  obtain ⟨o,e,_⟩:=T.obj 0 _ st b hb;exact Heap.lt_size e
 have st1:tn 0 h1:=T.keep _ _ _ st fun b _ o e=>old b o e;have I0:=ziC (fp:=fp) S I hf hfo H2.objs.size s.heap.objs.size rfl hC hns1 old hacc (s.toks+([]:List (Str×Value)).length);have hHp:H s.heap.objs.size=none:=I.hok.fresh (Nat.le_refl _);obtain ⟨W,⟨m0,w0⟩,turn⟩:=hq _ hHp;generalize hX:X.comp scope (zbe scope.names X.env []) H2.objs.size N s H fp=Y at I0;have eY:(Y.prog=X.prog∧Y.w=X.w∧Y.K=X.K∧Y.calm=true∧Y.A=X.A)∧Y.env=compEnvC scope (zbe scope.names X.env []) H2.objs.size X.env∧Y.fs=frs X.stack∧Y.ex=fp∧Y.s₀=s∧Y.H₀=H∧Y.pn=[]:=by
  subst hX;exact ⟨⟨rfl,rfl,rfl,hc,rfl⟩,rfl,rfl,rfl,rfl,rfl,rfl⟩
 have hgY:PG Y tg g:=by subst hX;exact hg _ _ _ _ _
 have htY:PTs Y ifs tc:=by subst hX;exact hts _ _ _ _ _
 have heY:PE Y elt te:=by subst hX;exact he _ _ _ _ _
 have hxe:Y.xe=fun _ _=>False:=by subst hX;rfl
 obtain ⟨⟨e1,e2,e3,e4,e5⟩,e6,e7,e8,e9,e10,e11⟩:=eY;have sub:=zeg (env:=X.env) scope.names [] (fun x c e=>by simp at e);have stat:∀ {H':Hp},(∀ b∈fp,H' b=none)→∀ b∈fp,FpOk Y [] H' b:=fun {H'} hn b hb=>by
  refine ⟨hn b hb,?_,?_,.inl (by rw [e8];exact hb),?_,?_⟩
  ·rw [e6];show b≠H2.objs.size;rw [hC];exact Nat.ne_of_lt (Nat.lt_succ_of_lt (hfo b hb))
  ·rw [e7];intro z;rcases List.mem_cons.mp (I.stkSub b z) with e | e
   ·exact (hf b hb).2.1 e
   ·exact (hf b hb).2.2.1 e
  ·intro x c e;rw [e6] at e;exact (hf b hb).2.2.2.2.1 x c (sub x c e)
  ·intro q hq;rw [e11] at hq;exact absurd hq (by simp)
 have noT:∀ b∈fp,b≠s.heap.objs.size:=fun b hb=>Nat.ne_of_lt (hfo b hb);have loop:∀ s3:Shared,s3={ s with heap:=h1,toks:=s.toks+([]:List (Str×Value)).length } →
   codeAny (model X.prog X.w) X.A (.compLoop (.ListComp elt [⟨tg,iter,ifs,0⟩] scope pos) 0 (.ref it) (.ref s.heap.objs.size) (compEnvC scope (zbe scope.names X.env []) H2.objs.size X.env))
    (RR (.ref s.heap.objs.size) H2.objs.size) s3:=by
  rintro s3 rfl;rw [← e1,← e2,← e5,← e6];refine ze4 (fun n s'=>∃ i σ' H',Inv Y [] σ' H' s'∧tn i s'.heap∧(∀ b∈fp,H' b=none)∧W i n σ' H') ?_ m0 ⟨0,_,_,I0,st1,fun b hb=>by rw [zaJ (noT b hb)];exact (hf b hb).1,w0⟩;rintro n s3 ⟨i,σ3,H3,I3,st3,fr3,w3⟩;rcases turn i n σ3 H3 w3 with ⟨stop,qn⟩ | ⟨go,N',hN,step⟩
  ·have tt:=T.done Y e1 e2 e3 e4 i [] s3 σ3 H3 (fun _ _=>False) I3 (stat fr3) st3 stop;rw [← e1,← e2] at tt;refine thn tt fun r s4 ⟨hr,I4⟩=>?_;subst hr;obtain ⟨m,hn4,_⟩:=I4.loc;have hl:Y.env.locals=H2.objs.size:=by rw [e6];rfl
   have u:=I4.base;rw [e7,e8,e9,e10] at u;refine hRR _ _ s4 H3 m hC (by rw [← hl];exact hn4) ?_ (by rw [← hl];exact I4.free) qn;refine I.call' (by rw [I4.os,e9]) u (by rw [← e1,← e2];exact I4.hok) I4.bare fun b hb=>?_;obtain ⟨f0,f1,f2,f3,f4,f5⟩:=hf b hb;exact ⟨f3,f1,f4,f5⟩
  ·have tt:=T.item Y e1 e2 e3 e4 i [] s3 σ3 H3 (fun _ _=>False) I3 (stat fr3) st3 go;rw [← e1,← e2] at tt;refine thn tt fun r s4 ⟨u,hr,h4⟩=>?_;subst hr;refine thn h4 fun _ s5 ⟨x,H5,I5,r5,y5,st5,fr5⟩=>?_;have I5':=I5.pinned (stat fr5) (T.obj _ _ st5);have a6:=hgY _ s5 σ3 H5 x u _ I5' r5 (step x H5 y5);rw [hxe] at a6;refine thn a6 fun _ s6 ⟨σ6,H6,I6,q6⟩=>?_;have a7:=htY _ s6 σ6 H6 _ I6 q6;rw [hxe] at a7;refine thn a7 fun ok s7 ⟨H7,I7,q7⟩=>?_;have again:∀ {H8:Hp} {s8:Shared},Inv Y ([]++zeX fp s5.heap) σ6 H8 s8→N' σ6 H8→∃ m,m < n∧∃ i σ' H',Inv Y [] σ' H' s8∧tn i s8.heap∧(∀ b∈fp,H' b=none)∧W i m σ' H':=fun {H8 s8} I8 n8=>by
    obtain ⟨m',hm,w8⟩:=hN σ6 H8 n8;refine ⟨m',hm,i+1,σ6,H8,I8.unpinned,T.keep _ _ _ st5 fun b hb o e=>(I8.pin (b,o) (List.mem_append_right _ (List.mem_append_right _ (zce hb e)))).1,fun b hb=>?_,w8⟩;obtain ⟨o,e,d⟩:=T.obj _ _ st5 b hb;exact (I8.pin (b,o) (List.mem_append_right _ (List.mem_append_right _ (zce hb e)))).2.1
   cases ok with
   | false =>
     rw [if_neg Bool.false_ne_true] at q7 ⊢;exact again I7 q7
   | true =>
     rw [if_pos rfl] at q7 ⊢;have a8:=heY _ s7 σ6 H7 _ I7 q7;rw [hxe] at a8;refine thn a8 fun y s8 ⟨v,H8,I8,r8,ys,q8,hz8,n8⟩=>?_;have a9:=mt_append (X:=Y) _ s8 σ6 H8 (.ref s.heap.objs.size) [v] (.ref s.heap.objs.size) [y] (fun _ H'=>N' σ6 H') I8 rfl (.cons r8 .nil) ⟨_,ys,v,rfl,rfl,q8,hz8,n8⟩;rw [hxe] at a9;refine thn a9 fun _ s9 ⟨_,H9,I9,_,n9⟩=>?_;exact again I9 n9
 exact codeAny_compStart_list (loop _ rfl) (T.self _ 0 _ _ _ st1 (loop _ rfl))
theorem zgC {pins:List (Addr×Obj)} {σ:St} {H H':Hp} {s s':Shared} {h':Heap} {C:Addr} (I:Inv X pins σ H s) (hC:C=s.heap.objs.size+1) (I':Inv X pins σ H' s') (hn:H' C=none) (hs:Heap.SameBut C s'.heap h'):Inv X pins σ H' { s' with heap:=h' }:=by
 have hlt:∀ b:Addr,b < s.heap.objs.size→b≠C:=fun b hb=>by rw [hC];exact Nat.ne_of_lt (Nat.lt_succ_of_lt hb)
 refine I'.turned (it:=C) (t':=s'.toks) (fun b o hb e=>(hs.2 b hb).trans e) hn ?_ (.inr ?_) ?_ ?_
 ·exact (hlt _ I.lt).symm
 ·rw [hC];exact Nat.le_succ_of_le I.sz
 ·intro x c e;obtain ⟨v,q⟩:=I.cell x c e;exact hlt _ q.lt
 ·intro p hp;exact hlt _ (Heap.lt_size (I.pin p hp).1)
theorem za6 (S:zca X scope N own js) (hc:X.calm=true) (hi:PI X tg iter wi)
  (hg:∀ cl C s H fp,PG (X.comp scope cl C N s H fp) tg g) (hts:∀ cl C s H fp,PTs (X.comp scope cl C N s H fp) ifs tc) (he:∀ cl C s H fp,PE (X.comp scope cl C N s H fp) elt te)
  (hs:∀ x,foldedSetIterable iter X.env x=pure x:=by intro _;rfl):PE X (.ListComp elt [⟨tg,iter,ifs,0⟩] scope pos) (zgB wi own js g tc te):=by
 intro pins s σ H Q I h;rw [eval_ListComp];refine wpAny_comprehension_free (use:=none) rfl hs (zcH fun x hx hk=>I.ok.has x.1 (S.free x hx hk)) S.kind S.nodup (thn (hi pins s σ H _ I h) fun v s1 h1=>thn h1 fun itv s2 h2=>?_);obtain ⟨it,fp,tn,J,H2,e,I2,T,st2,f2,q⟩:=h2;subst e;refine zei (RR:=fun acc C=>compPost (model X.prog X.w) X.A X.xe none (EP X pins σ Q) acc C) S hc I2 T st2 f2 hg hts he q ?_;intro p C s' H' m hC hn I' hH' q';exact ⟨m,hn,fun h' hs'=>⟨.ref p,H',zgC I2 hC I' hH' hs',rfl,q'⟩⟩
theorem zc2 {i:Nat} {y:Str} {py spos:Pos} (hN:X.N.Nodup) (hi':X.N[i]? = some y) (hx:Loc X.env.scope y) (hsw:swapsWith (.ListComp elt [⟨tg,iter,ifs,0⟩] scope pos) (some (.Name y py)) spos.line X.env=pure true)
  (S:zca X scope N own js) (hc:X.calm=true) (hi:PI X tg iter wi)
  (hg:∀ cl C s H fp,PG (X.comp scope cl C N s H fp) tg g) (hts:∀ cl C s H fp,PTs (X.comp scope cl C N s H fp) ifs tc) (he:∀ cl C s H fp,PE (X.comp scope cl C N s H fp) elt te)
  (hs:∀ x,foldedSetIterable iter X.env x=pure x:=by intro _;rfl) (hf:X.fn y=true∨X.env.scope.names.lookup y=some .local:=by first | exact .inl rfl | exact .inr rfl | assumption) :
  PS X (.Assign [.Name y py] (.ListComp elt [⟨tg,iter,ifs,0⟩] scope pos) spos) (tAsg (zgB wi own js g tc te) (zcj i)):=by
 intro pins s σ H D I h;rw [exec_Assign_Name_used _ _ _ _ hsw];refine wpAny_bind (wpAny_standAt (wpAny_bind ?_));show wpAny _ X.A (do let _ ← comprehension (.ListComp elt [⟨tg,iter,ifs,0⟩] scope pos) scope X.env _ (newList []) false (eval iter X.env) (some (assign (.Name y py) X.env))) _ _ s;refine wpAny_bind (wpAny_mono (wpAny_comprehension_free (use:=some (assign (.Name y py) X.env)) (Q:=fun _ s'=>SP X pins D .next s') rfl hs (zcH fun x hx hk=>I.ok.has x.1 (S.free x hx hk)) S.kind S.nodup
  (thn (hi pins s σ H _ I h) fun v s1 h1=>thn h1 fun itv s2 h2=>?_)) (fun _ s' hq=>wpAny_pure (wpAny_pure hq)) fun _ _ e=>e)
 obtain ⟨it,fp,tn,J,H2,e,I2,T,st2,f2,q⟩:=h2;subst e;refine zei (Q:=fun x H1=>zcj i x σ H1 D.nx) (RR:=fun acc C=>compPost (model X.prog X.w) X.A X.xe (some (assign (.Name y py) X.env)) (fun _ s'=>SP X pins D .next s') acc C) S hc I2 T st2 f2 hg hts he q ?_;intro p C s' H' m hC hn I' hH' q';show wpAny _ X.A (assign (.Name y py) X.env (.ref p)) _ _ _;refine wpAny_assign_Name (zeU (v:=.ref p) I' hN hi' hx rfl (fun s'' I'' hsb=>?_) hf);obtain ⟨a,hsb,ha⟩:=hsb;have hlt:∀ b:Addr,b < s2.heap.objs.size→b≠C:=fun b hb=>by rw [hC];exact Nat.ne_of_lt (Nat.lt_succ_of_lt hb)
 have hne:C≠a:=by
  rcases ha with rfl | ha
  ·exact (hlt _ I2.lt).symm
  ·obtain ⟨v,q⟩:=I2.cell y a ha;exact (hlt _ q.lt).symm
 refine ⟨m,hn.sameBut hsb hne,fun h' hs'=>⟨σ.set i (some (.ref p)),H',?_,q'⟩⟩;refine I''.turned (it:=C) (t':=s''.toks) (fun b o hb e=>(hs'.2 b hb).trans e) hH' ?_ (.inr ?_) ?_ ?_
 ·exact (hlt _ I2.lt).symm
 ·rw [hC];exact Nat.le_succ_of_le I2.sz
 ·intro x c e;obtain ⟨v,q⟩:=I2.cell x c e;exact hlt _ q.lt
 ·intro p hp;exact hlt _ (Heap.lt_size (I2.pin p hp).1)
end
end L2
namespace L2
open PySem PySem.Spec PyProof.Rows
theorem zfM {X:Cx}:zck X (.builtin "isinstance") (fun xs H Q=>∃ x n t b,xs=[x,.ty n]∧TyOf X.K H x t∧PySem.W.kitOne X.K t (.type n)=some b∧Q (.bl b) H):=by
 intro pins s σ H xs us Q I r h;obtain ⟨x,n,t,b,rfl,ty,e,q⟩:=h;obtain ⟨u,v,rfl,r1,r2⟩:=Vals.two r;have e2:v=Value.type n:=r2;subst e2;exact zhj I r1 ty e fun tk=>⟨.bl b,H,I.tok _,rfl,q⟩
section
variable {X:Cx} {K:PySem.W.Frag}
theorem zag (h:X.K=K):IxR X (rIxL K):=h▸ix_list
theorem zcg (h:X.K=K):SlR X (rSlL K):=h▸sl_list
theorem zkD (h:X.K=K):OpR X (compareOp .In) (rIn K false):=h▸op_in_seq
def cLen (K:PySem.W.Frag):List V→Hp→VK→Prop:=fun xs H Q=>∃ p ys,xs=[.ref p]∧(SqL K H p ys∨SqT K H p ys)∧Q (.int ys.length) H
theorem zao (h:X.K=K):zck X (.builtin "len") (cLen K):=h▸call_len_seq
def cIsi (K:PySem.W.Frag):List V→Hp→VK→Prop:=fun xs H Q=>∃ x n t b,xs=[x,.ty n]∧TyOf K H x t∧PySem.W.kitOne K t (.type n)=some b∧Q (.bl b) H
theorem zbS (h:X.K=K):zck X (.builtin "isinstance") (cIsi K):=h▸zfM
theorem zaR {tg l:Expr} {tl:TE} (h:X.K=K) (hl:PE X l tl):PI X tg l (zir K tl):=h▸zjt hl
def zjc (K:PySem.W.Frag) (ta:TE):TT:=fun σ H Q=>ta σ H fun x H'=>∃ k,TruV K x H' k∧Q k H'
theorem zaL {a:Expr} {ta:TE} (h:X.K=K) (ha:PE X a ta) (he:∀ whole,isTrue a X.env whole=(do let v ← whole;standAt a.pos;holding [v] (truthy v))):PT X a (zjc K ta):=h▸zit ha he
theorem zaT {o e:Expr} {es:List Expr} {to:TE} {t:TA} {name:Str} {apos cpos:Pos} {T id:String} {r:V→List V→Hp→VK→Prop} (h:X.K=K)
  (pa:PlainAttrs T) (slot:Slot T name id) (hty:typeOf (.builtin id)=pure (.type "method_descriptor")) (hm:MtR X id r) (ho:PE X o to) (ha:PA X (e::es) t)
  (hbase:attributeBase o name X.env (eval o X.env)=eval o X.env:=by rfl)
  (hfew:((backTo cpos (starEach (e::es) X.env)).all (fun x=>!x.1) && (backToKw cpos (keywordEach [] X.env)).all (fun x=>x.1.isSome)
   && decide ((e::es).length+([]:List Keyword).length+(if ([]:List Keyword).isEmpty then 0 else 1) < 30))=true:=by rfl)
  (hline:(apos.endLine == cpos.line)=true:=by rfl) (hs:starEach (e::es) X.env=(false,eval e X.env)::starEach es X.env:=by rfl) (hplain:(backTo cpos (starEach es X.env)).any (·.1)=false:=by rfl) :
  PE X (.Call (.Attribute o name apos) (e::es) [] cpos) (tBM K T r to t):=h▸zly pa slot hty hm ho ha hbase hfew hline hs hplain
def rAddS:R2:=fun x y H Q=>∃ i j,x=.str i∧y=.str j∧i.length+j.length≤sizeLine∧Q (.str (i++j)) H
def rAddG:R2:=fun x y H Q=>rI0 (fun i j=>.int (i+j)) x y H Q∨rCat x y H Q∨rAddS x y H Q
theorem op_addG:OpR X (binaryOp .Add) rAddG:=op_add.or (op_cat.or op_add_str)
def rNeG (K:PySem.W.Frag):R2:=fun x y H Q=>rNe x y H Q
theorem zkE (h:X.K=K):OpR X (compareOp .NotEq) (rNeG K):=op_ne
end
def zjd (scope:Scope) (xn:List (Str×NameKind)) (XN N:List Str) (own:Nat) (js:List Nat):Bool :=
 (scope.kind == .function) && scope.names.all (fun y=>y.2 != .cell) && scope.names.all (fun y=>y.2 != .local || scope.names.lookup y.1 == some .local) &&
 scope.names.all (fun y=>y.2 != .free || (xn.lookup y.1 == some .cell || xn.lookup y.1 == some .free)) && (N.length == own+js.length) &&
 (List.range js.length).all (fun i=>(N[own+i]? == XN[js.getD i 0]?) && match XN[js.getD i 0]? with
  | some x=>scope.names.lookup x == some .free && (xn.lookup x == some .cell || xn.lookup x == some .free)
  | none=>true)
theorem zau {X:Cx} {scope sc:Scope} {XN N:List Str} {own:Nat} {js:List Nat} (hs:X.env.scope=sc) (hN:X.N=XN) (h:zjd scope sc.names XN N own js=true):zca X scope N own js:=by
 subst hs hN;unfold zjd at h;simp only [Bool.and_eq_true,List.all_eq_true,beq_iff_eq,bne_iff_ne,Bool.or_eq_true,List.mem_range] at h;obtain ⟨⟨⟨⟨⟨h1,h2⟩,h3⟩,h4⟩,h5⟩,h6⟩:=h;refine ⟨h1,h2,fun y hy hk=>?_,fun y hy hk=>?_,h5,fun i j hj=>?_⟩
 ·rcases h3 y hy with z | z
  ·exact absurd hk z
  ·exact z
 ·rcases h4 y hy with z | z
  ·exact absurd hk z
  ·exact z
 ·have hi:i < js.length:=(List.getElem?_eq_some_iff.mp hj).1;have e:js.getD i 0=j:=by rw [List.getD_eq_getElem?_getD,hj];rfl
  obtain ⟨a,b⟩:=h6 i hi;rw [e] at a b;refine ⟨a,fun x hx=>?_⟩;rw [hx] at b;simp only [Bool.and_eq_true,beq_iff_eq,Bool.or_eq_true] at b;obtain ⟨b1,b2⟩:=b;refine ⟨b1,?_,?_⟩
  ·rcases b2 with z | z
   ·exact .inr (.inl z)
   ·exact .inr (.inr z)
  ·intro z;have z':X.env.scope.names.lookup x=some .local:=z;rcases b2 with q | q <;> rw [z'] at q <;> cases q
section
variable {σ σ':St} {H:Hp} {Q:VK} {QT:Bool→Hp→Prop} {QA:List V→Hp→Prop} {i j:Int} {v x y:V} {te ta tb:TE} {tc tc':TT} {tl tr:TA} {t u:TS} {K:PySem.W.Frag} {p:Addr} {xs:List V}
 {nx bk ct:St→Hp→Prop} {rt:VK} {D:Ends} {r r':R2} {n:Nat}
theorem zjK {i:Nat} (h:σ[i]? = some (some v)) (q:Q v H):tVar i σ H Q:=⟨v,h,q⟩
theorem r_c (q:Q v H):tC v σ H Q:=q
theorem r_op (h:ta σ H fun x H1=>tb σ H1 fun y H2=>r x y H2 Q):tOp r ta tb σ H Q:=h
theorem r_I0 {g:Int→Int→V} (q:Q (g i j) H):rI0 g (.int i) (.int j) H Q:=⟨i,j,rfl,rfl,q⟩
theorem zlC (q:Q (.bl (decide (i=j))) H):rEq (.int i) (.int j) H Q:=⟨rfl,by simpa using q⟩
theorem zlD (q:Q (.bl (!decide (i=j))) H):rNe (.int i) (.int j) H Q:=⟨rfl,by simpa using q⟩
theorem zdj (h:SqL K H p xs) (e:atI xs i=some v) (q:Q v H):rIxL K (.ref p) (.int i) H Q:=⟨p,xs,i,v,rfl,rfl,h,e,q⟩
theorem r_cb {f:List V→Hp→VK→Prop} (h:tl σ H fun vs H1=>f vs H1 Q):tCB f tl σ H Q:=h
theorem ze5 (q:QA [] H):tNil σ H QA:=q
theorem zkF (h:ta σ H fun x H1=>tl σ H1 fun xs H2=>QA (x::xs) H2):zhk ta tl σ H QA:=h
theorem zje {sp:Sp} {E:XK} (h:tl σ H fun vs H1=>sp vs H1 Q E):ziw sp [] E tl σ H Q:=by
 unfold ziw;simpa only [List.append_nil] using h
theorem zbm {c:Prop} {A B:Prop} [Decidable c] (h1:c→A) (h2:¬c→B):if decide c=true then A else B:=by
 by_cases h:c
 ·rw [if_pos (decide_eq_true h)];exact h1 h
 ·rw [if_neg (by simpa using h)];exact h2 h
theorem zfN {b:Bool} {A B:Prop} (h1:b=true→A) (h2:b=false→B):if b=true then A else B:=by
 cases b with
 | true=>exact h1 rfl
 | false=>exact h2 rfl
theorem zkG {b:Bool} {A B:Prop} (h1:b=false→A) (h2:b=true→B):if (!b)=true then A else B:=by
 cases b with
 | true=>exact h2 rfl
 | false=>exact h1 rfl
theorem zex {ns:List Int} {k:Int} (h0:0≤k) (h1:k < ns.length):atI (ns.map V.int) k=some (.int (ns.getD k.toNat 0)):=by
 obtain ⟨n,rfl⟩:=Int.eq_ofNat_of_zero_le h0;have hn:n < ns.length:=by omega
 refine zho ?_;rw [List.getElem?_map,List.getD_eq_getElem?_getD,Int.toNat_natCast,List.getElem?_eq_getElem hn];rfl
theorem zey {ps:List Addr} {k:Int} (h0:0≤k) (h1:k < ps.length):atI (ps.map V.ref) k=some (.ref (ps.getD k.toNat 0)):=by
 obtain ⟨n,rfl⟩:=Int.eq_ofNat_of_zero_le h0;have hn:n < ps.length:=by omega
 refine zho ?_;rw [List.getElem?_map,List.getD_eq_getElem?_getD,Int.toNat_natCast,List.getElem?_eq_getElem hn];rfl
def zhx (xs:List V) (H:Hp) (Q:VK):Prop:=xs.length≤sizeLine∧∀ p,H p=none→Q (.ref p) (upd H p (.lst xs))
theorem zlE (h:tl σ H fun xs H1=>zhx xs H1 Q):tLst tl σ H Q:=h
theorem r_bm {T:String} {f:V→List V→Hp→VK→Prop} (h:te σ H fun x H1=>tyV K T x H1∧tl σ H1 fun xs H2=>f x xs H2 Q):tBM K T f te tl σ H Q:=h
theorem zlF (h:ta σ H fun x H1=>∃ c,x=.bl c∧if c=true then Q (.bl true) H1 else tb σ H1 Q):tOrV ta tb σ H Q:=h
theorem zkH {b:Bool} {P:Bool→Prop} (h:P b):∃ c,V.bl b=.bl c∧P c:=⟨b,rfl,h⟩
theorem zkI (h:ta σ H fun x H'=>∃ k,x=.bl k∧QT k H'):zks ta σ H QT:=h
theorem zlG (h:tc σ H fun c H1=>if c=true then tc' σ H1 QT else QT false H1):tAnd tc tc' σ H QT:=h
theorem r_or (h:tc σ H fun c H1=>if c=true then QT true H1 else tc' σ H1 QT):tOr tc tc' σ H QT:=h
theorem zlH (h:tc σ H fun c H1=>QT (!c) H1):tNot tc σ H QT:=h
theorem r_if (h:tc σ H fun c H1=>if c=true then ta σ H1 Q else tb σ H1 Q):tIf tc ta tb σ H Q:=h
theorem r_tt (h:QT true H):tTT σ H QT:=h
theorem ziD (h:t ⟨u ⟨nx,rt,bk,ct⟩,rt,bk,ct⟩ σ H):tSeq t u ⟨nx,rt,bk,ct⟩ σ H:=h
theorem zlI (h:te σ H rt):tRet te ⟨nx,rt,bk,ct⟩ σ H:=h
theorem zkJ (h:te σ H fun _ H1=>nx σ H1):zko te ⟨nx,rt,bk,ct⟩ σ H:=h
theorem zkK (h:nx σ H):tNext ⟨nx,rt,bk,ct⟩ σ H:=h
theorem zlJ {i:Nat} (h:te σ H fun x H1=>nx (σ.set i (some x)) H1):tAsg te (zcj i) ⟨nx,rt,bk,ct⟩ σ H:=h
theorem zlK (h:tc σ H fun b H1=>if b=true then t D σ H1 else u D σ H1):tIfS tc t u D σ H:=h
theorem zjL {i:Nat} {N:St→Hp→Prop} (h:N (σ.set i (some v)) H):zcj i v σ H N:=h
def ForR (lo:Int) (n:Nat) (g:TG) (tb:TS) (D:Ends) (σ:St) (H:Hp):Prop :=
 ∃ W:Nat→Nat→St→Hp→Prop,(∃ m,W 0 m σ H)∧∀ i m σ H,W i m σ H →
  ((Itr lo n).stop i H∧D.nx σ H)∨((Itr lo n).go i H∧∃ N:St→Hp→Prop,(∀ σ' H',N σ' H'→∃ m',m' < m∧W (i+1) m' σ' H')∧∀ x H',(Itr lo n).yld i H x H'→g x σ H' fun σ2 H2=>tb { D with nx:=N,ct:=N,bk:=D.nx } σ2 H2)
theorem zkL {g:TG} {tb:TS} (h:tl σ H fun vs H1=>∃ j:Int,vs=[.int j]∧-(2 ^ 62)≤j∧j < 2 ^ 62∧ForR 0 j.toNat g tb D σ H1):tFor (zju tl) g tb D σ H:=h
theorem zkM {g:TG} {tb:TS} (h:tl σ H fun vs H1=>∃ i j:Int,vs=[.int i,.int j]∧(-(2 ^ 62)≤i∧i < 2 ^ 62∧-(2 ^ 62)≤j∧j < 2 ^ 62)∧ForR i (j-i).toNat g tb D σ H1):tFor (zjv tl) g tb D σ H:=h
theorem ze6 {P:Int→Prop} (b1 : -(2 ^ 62)≤i) (b2:i < 2 ^ 62) (h:P i):∃ j:Int,[V.int i]=[.int j]∧-(2 ^ 62)≤j∧j < 2 ^ 62∧P j:=⟨i,rfl,b1,b2,h⟩
theorem ze7 {P:Int→Int→Prop} (b : -(2 ^ 62)≤i∧i < 2 ^ 62∧-(2 ^ 62)≤j∧j < 2 ^ 62) (h:P i j):∃ i' j':Int,[V.int i,V.int j]=[.int i',.int j']∧(-(2 ^ 62)≤i'∧i' < 2 ^ 62∧-(2 ^ 62)≤j'∧j' < 2 ^ 62)∧P i' j':=⟨i,j,rfl,b,h⟩
theorem zlL (h:SqL K H p xs) (q:Q (.int xs.length) H):cLen K [.ref p] H Q:=⟨p,xs,rfl,.inl h,q⟩
theorem zkN {ns:List Int} (h:SqL K H p (ns.map V.int)) (q:Q (.int ns.length) H):cLen K [.ref p] H Q:=⟨p,_,rfl,.inl h,by rw [List.length_map];exact q⟩
theorem zkO {ns:List Addr} (h:SqL K H p (ns.map V.ref)) (q:Q (.int ns.length) H):cLen K [.ref p] H Q:=⟨p,_,rfl,.inl h,by rw [List.length_map];exact q⟩
theorem zlM {T:String} {ty:Value} {b:Bool} (h:TyOf K H x ty) (e:PySem.W.kitOne K ty (.type T)=some b) (q:Q (.bl b) H):cIsi K [x,.ty T] H Q:=⟨x,T,ty,b,rfl,h,e,q⟩
theorem zjM (h:ta σ H fun x H'=>∃ k,TruV K x H' k∧QT k H'):zjc K ta σ H QT:=h
theorem zjN {b:Bool} {P:Bool→Prop} (h:P b):∃ k,TruV K (.bl b) H k∧P k:=⟨b,rfl,h⟩
theorem zkP (q:Q (.int (i+j)) H):rAddG (.int i) (.int j) H Q:=.inl ⟨i,j,rfl,rfl,q⟩
theorem zjf (q:Q (.bl (!decide (i=j))) H):rNeG K (.int i) (.int j) H Q:=zlD q
theorem zej {lo:Int} {g:TG} {tb:TS} (Pv:Nat→St→Hp→Prop) (h0:Pv 0 σ H)
  (hs:∀ i σ H,i < n→Pv i σ H→g (.int (lo+i)) σ H fun σ2 H2=>tb ⟨Pv (i+1),rt,nx,Pv (i+1)⟩ σ2 H2) (hd:∀ σ H,Pv n σ H→nx σ H):ForR lo n g tb ⟨nx,rt,bk,ct⟩ σ H :=
 zhb (D:=⟨nx,rt,bk,ct⟩) Pv h0 hs hd
end
end L2
namespace L2
open PySem PySem.Spec PyProof.Rows
section
variable {H:Hp} {Q:VK} {K:PySem.W.Frag} {p:Addr} {xs:List V} {y:V}
theorem zaC {H:Hp} {p:Addr} {o:HO} (hp:H p=none):Same H (upd H p o):=fun b u e=>by
 rw [zaJ (zaf e hp)];exact e
def But (p:Addr) (H H':Hp):Prop:=∀ b,b≠p→H' b=H b
theorem But.upd {H:Hp} {p:Addr} {o:HO}:But p H (upd H p o):=fun b h=>zaJ h
theorem Same.but {B H H':Hp} {p:Addr} (s:Same B H) (b:But p H H') (hp:B p=none):Same B H':=fun c o e=>by
 rw [b c (zaf e hp)];exact s c o e
theorem zam (hz:xs.length≤1000) (h:∀ p H2,H p=none→Same H H2→H2 p=some (.lst xs)→Q (.ref p) H2):zhx xs H Q :=
 ⟨Nat.le_of_lt (zaH hz),fun p hp=>h p _ hp (zaC hp) zaq⟩
theorem zap (h:H p=some (.lst xs)) (hz:xs.length≤1000000) (q:∀ H2,But p H H2→H2 p=some (.lst (xs++[y]))→Q .non H2):rAppend (.ref p) [y] H Q:=⟨p,xs,y,rfl,rfl,h,by rw [sizeLine_eq];omega,q _ But.upd zaq⟩
theorem zez {a b:Addr} {ys:List V} (h:H a=some (.lst xs)) (h':H b=some (.lst ys)) (hz:xs.length+ys.length≤1000) (q:∀ p H2,H p=none→Same H H2→H2 p=some (.lst (xs++ys))→Q (.ref p) H2):rAddG (.ref a) (.ref b) H Q :=
 .inr (.inl ⟨a,b,xs,ys,rfl,rfl,h,h',Nat.le_of_lt (zaH hz),fun p hp=>q p _ hp (zaC hp) zaq⟩)
theorem zdq {c d:Bool} {tb:TT} {σ:St} {QT:Bool→Hp→Prop} (hb:c=false→∀ Q':Bool→Hp→Prop,Q' d H→tb σ H Q') (q:QT (c || d) H):if c=true then QT true H else tb σ H QT:=by
 cases c with
 | true=>exact q
 | false=>exact hb rfl QT q
theorem zjO {f:Int→Int→V} {i j:Int} (c:0 < j) (q:Q (f i j) H):rI (fun _ j=>0 < j) f (.int i) (.int j) H Q:=⟨i,j,rfl,rfl,c,q⟩
theorem zlN {P:Prop} (h:H p=some (.lst xs)) (q:P):tyV K "list" (.ref p) H∧P:=⟨.inl ⟨rfl,_,SqL.of h⟩,q⟩
end
end L2
namespace L2
open PySem PySem.Spec PyProof.Rows
section
variable {σ:St} {H:Hp} {Q:VK} {K:PySem.W.Frag} {js:List Nat} {te:TE} {tc:TT} {J:It} {n:Nat} {x:Nat→V}
structure Iter (J:It) (n:Nat) (x:Nat→V) (H:Hp):Prop where
 go:∀ i H',Same H H'→i < n→J.go i H'
 yld:∀ i H' v H2,Same H H'→i < n→J.yld i H' v H2→H2=H'∧v=x i
 stop:∀ H',Same H H'→J.stop n H'
theorem zch (lo:Int) (n:Nat) (H:Hp):Iter (Itr lo n) n (fun i=>.int (lo+i)) H :=
 ⟨fun i H' _ h=>h,fun i H' v H2 _ _ h=>h,fun H' _=>Nat.le_refl n⟩
theorem zaZ {a:Addr} {xs:List V} (h:SqL K H a xs):Iter (Itl K a) xs.length (fun i=>xs.getD i .non) H :=
 ⟨fun i H' s hi=>⟨xs,xs[i],s.seq h,List.getElem?_eq_getElem hi⟩,fun i H' v H2 s hi h'=>⟨h'.1,by
  have:=h'.2 xs (s.seq h);rw [List.getD_eq_getElem?_getD,this];rfl⟩,fun H' s=>⟨xs,s.seq h,Nat.le_refl _⟩⟩
def zeA (J:It) (js:List Nat) (tc:TT) (te:TE) (σ:St) (H:Hp) (Q:VK):Prop:=∀ p,H p=none →
 ∃ W:Nat→Nat→St→Hp→Prop,(∃ m,W 0 m (capS 1 js σ) (upd H p (.lst [])))∧∀ i m σc H,W i m σc H →
  (J.stop i H∧Q (.ref p) H)∨(J.go i H∧∃ N:St→Hp→Prop,(∀ σ' H',N σ' H'→∃ m',m' < m∧W (i+1) m' σ' H')∧∀ x H',J.yld i H x H' →
   zcj 0 x σc H' fun σ2 H2=>tc σ2 H2 fun b H3=>if b=true then te σ2 H3 fun v H4=>∃ ys,H4 p=some (.lst ys)∧ys.length < sizeLine∧N σ2 (upd H4 p (.lst (ys++[v]))) else N σ2 H3)
theorem zjP {tl:TA} (h:tl σ H fun vs H1=>∃ j:Int,vs=[.int j]∧-(2 ^ 62)≤j∧j < 2 ^ 62∧zeA (Itr 0 j.toNat) js tc te σ H1 Q):zgB (zju tl) 1 js (zcj 0) tc te σ H Q:=h
theorem zjQ {tl:TA} (h:tl σ H fun vs H1=>∃ i j:Int,vs=[.int i,.int j]∧(-(2 ^ 62)≤i∧i < 2 ^ 62∧-(2 ^ 62)≤j∧j < 2 ^ 62)∧zeA (Itr i (j-i).toNat) js tc te σ H1 Q):zgB (zjv tl) 1 js (zcj 0) tc te σ H Q:=h
theorem zjR {tl:TE} (h:tl σ H fun x H1=>∃ a,x=.ref a∧(∃ xs,SqL K H1 a xs)∧zeA (Itl K a) js tc te σ H1 Q):zgB (zir K tl) 1 js (zcj 0) tc te σ H Q:=h
def capV (js:List Nat) (σ:St):St:=js.map fun j=>(σ[j]?).getD none
theorem zhy (u:Option V) (v:V):(u::capV js σ).set 0 (some v)=some v::capV js σ:=rfl
theorem zgi {H H':Hp} {p:Addr} {o:HO} (s:Same H H') (hp:H p=none):Same H (upd H' p o):=fun b u e=>by
 rw [zaJ (zaf e hp)];exact s b u e
theorem za0 (it:Iter J n x H) (hz:n < sizeLine) (c:Nat→Bool) (f:Nat→V)
  (ht:∀ i H' Q',i < n→Same H H'→Q' (c i) H'→tc (some (x i)::capV js σ) H' Q')
  (he:∀ i H' Q',i < n→Same H H'→c i=true→Q' (f i) H'→te (some (x i)::capV js σ) H' Q')
  (hq:∀ p,H p=none→Q (.ref p) (upd H p (.lst (((List.range n).filter c).map f)))):zeA J js tc te σ H Q:=by
 intro p hp;refine ⟨fun i m σc H'=>m=n-i∧i≤n∧(∃ u,σc=u::capV js σ)∧H'=upd H p (.lst (((List.range i).filter c).map f)),⟨n,by simp,Nat.zero_le _,⟨none,rfl⟩,rfl⟩,?_⟩;rintro i m σc H' ⟨rfl,hi,⟨u,rfl⟩,rfl⟩;have s:∀ o,Same H (upd H p o):=fun o=>zaC hp;have hlen:(((List.range i).filter c).map f).length≤i:=by
  rw [List.length_map];exact Nat.le_trans (List.length_filter_le _ _) (by simp)
 by_cases hlt:i < n
 ·refine .inr ⟨it.go i _ (s _) hlt,fun σ' H'=>(∃ u,σ'=u::capV js σ)∧H'=upd H p (.lst (((List.range (i+1)).filter c).map f)),fun σ' H' ⟨h1,h2⟩=>⟨n-(i+1),by omega,rfl,hlt,h1,h2⟩,fun v H2 hy=>?_⟩;obtain ⟨rfl,rfl⟩:=it.yld i _ v H2 (s _) hlt hy;show tc ((u::capV js σ).set 0 (some (x i))) _ _;rw [zhy];have e:(List.range (i+1)).filter c=(List.range i).filter c++if c i=true then [i] else []:=by
   rw [List.range_succ,List.filter_append]
   cases hc:c i <;> simp [hc]
  refine ht i _ _ hlt (s _) ?_
  cases hc:c i with
  | false =>
    rw [if_neg Bool.false_ne_true];refine ⟨⟨_,rfl⟩,?_⟩;rw [e,hc];simp
  | true =>
    rw [if_pos rfl];refine he i _ _ hlt (s _) hc ⟨_,zaq,by omega,⟨_,rfl⟩,?_⟩;rw [zjr,e,hc];simp
 ·have e:i=n:=by omega
  subst e;exact .inl ⟨it.stop _ (s _),hq p hp⟩
def ForI (J:It) (g:TG) (tb:TS) (D:Ends) (σ:St) (H:Hp):Prop :=
 ∃ W:Nat→Nat→St→Hp→Prop,(∃ m,W 0 m σ H)∧∀ i m σ H,W i m σ H →
  (J.stop i H∧D.nx σ H)∨(J.go i H∧∃ N:St→Hp→Prop,(∀ σ' H',N σ' H'→∃ m',m' < m∧W (i+1) m' σ' H')∧∀ x H',J.yld i H x H'→g x σ H' fun σ2 H2=>tb { D with nx:=N,ct:=N,bk:=D.nx } σ2 H2)
theorem zkQ {tl:TE} {g:TG} {tb:TS} {D:Ends} (h:tl σ H fun x H1=>∃ a,x=.ref a∧(∃ xs,SqL K H1 a xs)∧ForI (Itl K a) g tb D σ H1):tFor (zir K tl) g tb D σ H:=h
theorem zba {a:Addr} {P:Addr→Prop} {xs:List V} (h:SqL K H a xs) (q:P a):∃ b,V.ref a=.ref b∧(∃ xs,SqL K H b xs)∧P b:=⟨a,rfl,⟨xs,h⟩,q⟩
theorem zeB {a:Addr} {xs:List V} {g:TG} {tb:TS} {nx bk ct:St→Hp→Prop} {rt:VK} (Pv:Nat→St→Hp→Prop) (h0:Pv 0 σ H) (hl:∀ i σ H,i≤xs.length→Pv i σ H→SqL K H a xs)
  (hs:∀ i x σ H,xs[i]? = some x→Pv i σ H→g x σ H fun σ2 H2=>tb ⟨Pv (i+1),rt,nx,Pv (i+1)⟩ σ2 H2) (hd:∀ σ H,Pv xs.length σ H→nx σ H):ForI (Itl K a) g tb ⟨nx,rt,bk,ct⟩ σ H :=
 zis (D:=⟨nx,rt,bk,ct⟩) Pv h0 hl hs hd
theorem zhz (it:Iter J n x H) (hz:n≤1000) (f:Nat→Int)
  (he:∀ i H' Q',i < n→Same H H'→Q' (.int (f i)) H'→te (some (x i)::capV js σ) H' Q')
  (hq:∀ p H2,H p=none→Same H H2→H2 p=some (.lst (((List.range n).map f).map V.int))→Q (.ref p) H2):zeA J js tTT te σ H Q:=by
 refine za0 it (zaH hz) (fun _=>true) (fun i=>.int (f i)) (fun i H' Q' _ _ q=>q) (fun i H' Q' hi s _ q=>he i H' Q' hi s q) fun p hp=>hq p _ hp (zaC hp) ?_;rw [zaq,List.filter_eq_self.mpr (fun _ _=>rfl),List.map_map];rfl
theorem zhA (it:Iter J n x H) (hz:n≤1000) (c:Nat→Bool) (f:Nat→Int)
  (ht:∀ i H' Q',i < n→Same H H'→Q' (c i) H'→tc (some (x i)::capV js σ) H' Q')
  (he:∀ i H' Q',i < n→Same H H'→c i=true→Q' (.int (f i)) H'→te (some (x i)::capV js σ) H' Q')
  (hq:∀ p H2,H p=none→Same H H2→H2 p=some (.lst ((((List.range n).filter c).map f).map V.int))→Q (.ref p) H2):zeA J js tc te σ H Q:=by
 refine za0 it (zaH hz) c (fun i=>.int (f i)) ht (fun i H' Q' hi s hc q=>he i H' Q' hi s hc q) fun p hp=>hq p _ hp (zaC hp) ?_;rw [zaq,List.map_map];rfl
end
end L2
namespace L2
open PySem PySem.Spec PyProof.Rows
def LL (K:PySem.W.Frag) (H:Hp) (a:Addr) (rs:List (List Int)):Prop :=
 ∃ ps:List Addr,SqL K H a (ps.map V.ref)∧ps.length=rs.length∧∀ i,i < rs.length→H (ps.getD i 0)=some (.lst ((rs.getD i []).map V.int))
theorem LL.same {K:PySem.W.Frag} {H H':Hp} {a:Addr} {rs:List (List Int)} (h:LL K H a rs) (s:Same H H'):LL K H' a rs:=by
 obtain ⟨ps,h1,h2,h3⟩:=h;exact ⟨ps,s.seq h1,h2,fun i hi=>s _ _ (h3 i hi)⟩
structure zaP (B:Hp) (p:Addr) (rs:List (List Int)) (H:Hp):Prop where
 same:Same B H
 new:B p=none
 rows:∃ ps:List Addr,H p=some (.lst (ps.map V.ref))∧ps.length=rs.length∧ps.Nodup∧∀ i,i < rs.length→H (ps.getD i 0)=some (.lst ((rs.getD i []).map V.int))∧B (ps.getD i 0)=none∧ps.getD i 0≠p
theorem zaP.start {B H:Hp} {p:Addr} (hp:B p=none) (s:Same B H) (e:H p=some (.lst [])):zaP B p [] H :=
 ⟨s,hp,[],e,rfl,List.nodup_nil,fun i hi=>absurd hi (by simp)⟩
theorem zay {α:Type} {xs ys:List α} {d:α} {i:Nat} (h:i < xs.length):(xs++ys).getD i d=xs.getD i d:=by
 rw [List.getD_eq_getElem?_getD,List.getD_eq_getElem?_getD,List.getElem?_append_left h]
theorem zas {α:Type} {xs:List α} {y d:α}:(xs++[y]).getD xs.length d=y:=by
 rw [List.getD_eq_getElem?_getD,List.getElem?_append_right (Nat.le_refl _)];simp
theorem mem_getD {α:Type} {xs:List α} {d a:α} (h:a∈xs):∃ i,i < xs.length∧xs.getD i d=a:=by
 obtain ⟨k,hk,e⟩:=List.getElem_of_mem h;exact ⟨k,hk,by rw [List.getD_eq_getElem?_getD,List.getElem?_eq_getElem hk,e];rfl⟩
theorem zaP.push {B H H2 H3:Hp} {p q:Addr} {rs:List (List Int)} {r:List Int} {zs:List V} (R:zaP B p rs H) (hq:H q=none) (s:Same H H2) (e:H2 q=some (.lst (r.map V.int))) (hz:H2 p=some (.lst zs)) (b:But p H2 H3) (e3:H3 p=some (.lst (zs++[.ref q]))):zaP B p (rs++[r]) H3:=by
 obtain ⟨sb,hp,ps,h1,h2,nd,h3⟩:=R;have ez:zs=ps.map V.ref:=by
  have:=s p _ h1;rw [hz] at this;exact (HO.lst.inj (Option.some.inj this))
 subst ez;have hBq:B q=none:=sb.free hq;have hqp:q≠p:=(zaf h1 hq).symm;refine ⟨(sb.trans s).but b hp,hp,ps++[q],by rw [e3,List.map_append];rfl,by simp [h2],?_,fun i hi=>?_⟩
 ·refine List.nodup_append.mpr ⟨nd,by simp,fun a ha c hc=>?_⟩;have hc':c=q:=by simpa using hc
  subst hc';obtain ⟨k,hk,ek⟩:=mem_getD (d:=0) ha;have:=(h3 k (by omega)).1;rw [ek] at this;exact zaf this hq
 ·rw [List.length_append,List.length_singleton] at hi
  by_cases hlt:i < rs.length
  ·obtain ⟨a1,a2,a3⟩:=h3 i hlt;rw [zay (by omega),zay hlt];refine ⟨?_,a2,a3⟩;rw [b _ a3];exact s _ _ a1
  ·have ei:i=rs.length:=by omega
   subst ei;rw [zas,← h2,zas];refine ⟨?_,hBq,hqp⟩;rw [b _ hqp];exact e
theorem zaP.lst {B H:Hp} {p:Addr} {rs:List (List Int)} (R:zaP B p rs H):∃ zs:List V,H p=some (.lst zs)∧zs.length=rs.length:=by
 obtain ⟨sb,hp,ps,h1,h2,nd,h3⟩:=R;exact ⟨_,h1,by rw [List.length_map,h2]⟩
theorem zd4 {α:Type} {f:Nat→α} {n i:Nat} {d:α} (h:i < n):((List.range n).map f).getD i d=f i:=by
 rw [List.getD_eq_getElem?_getD,List.getElem?_map,List.getElem?_range h];rfl
end L2
namespace L2
open PySem PySem.Spec PyProof.Rows
section
variable {X:Cx} {tg:Expr}
end
section
variable {σ:St} {H:Hp} {i j:Int} {D:Ends} {nx bk ct:St→Hp→Prop} {rt:VK} {n:Nat} {Q:VK}
end
end L2
namespace L2
open PySem PySem.Spec PyProof.Rows
section
variable {X:Cx} {pins:List (Addr×Obj)} {σ:St} {H:Hp} {s:Shared} {h':Heap}
theorem Inv.turnedNew {ch:List Addr} {T:Addr} {o:HO} {t':Nat} (I:Inv X pins σ H s) (k:∀ b ob,b∉ch→s.heap.get? b=some ob→h'.get? b=some ob) (hf:∀ b∈ch,FpOk X pins H b∧∃ ob,h'.get? b=some ob) (hT:s.heap.objs.size≤T)
  (new:zbl X.prog X.w (upd H T o) h' T o):Inv X pins σ (upd H T o) { s with heap:=h',toks:=t' }:=by
 have hn:H T=none:=I.hok.fresh hT;have ne:∀ b ob,s.heap.get? b=some ob→b≠T:=fun b ob e=>Nat.ne_of_lt (Nat.lt_of_lt_of_le (Heap.lt_size e) hT);have nch:∀ b u,H b=some u→b∉ch:=fun b u e z=>by rw [(hf b z).1.1] at e;cases e
 refine I.step (g':=s.gens) (d':=s.drawn) (ch:=ch) (fun b hb=>?_) (fun b ob _ _ hc e _=>k b ob hc e) (fun b ob _ _ hc e _=>⟨ob.slots,k b ob hc e⟩) (fun b ob _ e n=>by rw [zaJ (ne b ob e)];exact n)
  (fun b ob hc e=>⟨ob,k b ob hc e⟩) (fun b xs e=>by rw [zaJ (zaf e hn)];exact e) (fun b ob u e=>by rw [zaJ (zaf e hn)];exact e) (fun b ps e=>⟨#[],by rw [zaJ (zaf e hn),e];simp⟩) (fun m hm=>?_) (fun b u e=>?_) I.bare
 ·obtain ⟨⟨f0,f1,f2,f3,f4,f5⟩,_⟩:=hf b hb;exact ⟨f3,f1,f4,f5⟩
 ·obtain ⟨ob,es,ep,ho,r⟩:=hm;exact ⟨ob,es,ep,k _ ob (fun z=>(hf _ z).1.2.1 rfl) ho,r⟩
 ·by_cases hb:b=T
  ·subst hb;rw [zaq] at e;cases e;exact new
  ·rw [zaJ hb] at e;refine (I.hok b u e).stay (fun c v hc q=>k c v ?_ q) (fun c q=>by rw [zaJ (zaf q hn)];exact q) fun c xs q=>by rw [zaJ (zaf q hn)];exact q
   rcases hc with z | z
   ·rw [z];exact nch b u e
   ·exact nch c _ z
theorem Inv.turnedL {ch:List Addr} {t':Nat} (I:Inv X pins σ H s) (k:∀ b ob,b∉ch→s.heap.get? b=some ob→h'.get? b=some ob) (hf:∀ b∈ch,FpOk X pins H b):Inv X pins σ H { s with heap:=h',toks:=t' }:=by
 have nch:∀ b u,H b=some u→b∉ch:=fun b u e z=>by rw [(hf b z).1] at e;cases e
 refine I.step (g':=s.gens) (d':=s.drawn) (ch:=ch) (fun b hb=>?_) (fun b ob _ _ hc e _=>k b ob hc e) (fun b ob _ _ hc e _=>⟨ob.slots,k b ob hc e⟩) (fun b ob _ e n=>n)
  (fun b ob hc e=>⟨ob,k b ob hc e⟩) (fun b xs e=>e) (fun b ob u e=>e) (fun b ps e=>⟨#[],by rw [e];simp⟩) (fun m hm=>?_) (fun b u e=>?_) I.bare
 ·obtain ⟨f0,f1,f2,f3,f4,f5⟩:=hf b hb;exact ⟨f3,f1,f4,f5⟩
 ·obtain ⟨ob,es,ep,ho,r⟩:=hm;exact ⟨ob,es,ep,k _ ob (fun z=>(hf _ z).2.1 rfl) ho,r⟩
 ·refine (I.hok b u e).stay (fun c v hc q=>k c v ?_ q) (fun c q=>q) fun c xs q=>q;rcases hc with z | z
  ·rw [z];exact nch b u e
  ·exact nch c _ z
end
section
variable {X:Cx} {K:PySem.W.Frag}
theorem zeC {es:List Expr} {k:Nat} {t:TGs} {n:Nat} {pos:Pos} (hK:X.K=K) (hc:X.calm=true) (h:PGs X es t)
  (hn:(assignEach es X.env).length=n:=by rfl) (hst:(assignEach es X.env).findIdx? (·.1)=none:=by rfl):PG X (.Tuple es k pos) (gTup K n t):=hK▸zkp hc h hn hst
end
section
variable {σ:St} {H:Hp} {D:Ends} {nx bk ct:St→Hp→Prop} {rt:VK} {K:PySem.W.Frag} {Q:VK}
end
theorem zby {t u:TS} {nx bk ct:St→Hp→Prop} {rt:VK} {σ:St} {H:Hp} (M:St→Hp→Prop) (h1:∀ nx':St→Hp→Prop,(∀ σ' H',M σ' H'→nx' σ' H')→t ⟨nx',rt,bk,ct⟩ σ H)
  (h2:∀ σ' H',M σ' H'→u ⟨nx,rt,bk,ct⟩ σ' H'):tSeq t u ⟨nx,rt,bk,ct⟩ σ H:=h1 _ h2
section
variable {X:Cx} {K:PySem.W.Frag}
def eqVs:List V→List V→Bool
 | [],[]=>true
 | x::xs,y::ys=>eqV x y && eqVs xs ys
 | _,_=>false
theorem eqVs_len:∀ {xs ys:List V},xs.length≠ys.length→eqVs xs ys=false
 | [],[],h=>absurd rfl h
 | [],_::_,_=>rfl
 | _::_,[],_=>rfl
 | x::xs,y::ys,h=>by
   unfold eqVs;rw [eqVs_len (xs:=xs) (ys:=ys) (fun e=>h (by simp [e])),Bool.and_false]
theorem eqVs_all:∀ {xs ys:List V},xs.length=ys.length→(List.range xs.length).all (fun j=>eqV (xs.getD j .non) (ys.getD j .non))=eqVs xs ys
 | [],[],_=>rfl
 | x::xs,y::ys,h=>by
   have ih:=eqVs_all (xs:=xs) (ys:=ys) (by simpa using h);rw [List.length_cons,List.range_succ_eq_map,List.all_cons,List.all_map];unfold eqVs;rw [← ih];rfl
theorem eqVs_ints:∀ {xs ys:List Int},eqVs (xs.map V.int) (ys.map V.int)=decide (xs=ys)
 | [],[]=>rfl
 | [],_::_=>rfl
 | _::_,[]=>rfl
 | x::xs,y::ys=>by
   rw [List.map_cons,List.map_cons];unfold eqVs;rw [eqVs_ints]
   by_cases h:x=y
   ·subst h;simp [eqV]
   ·simp [eqV,h]
def rEqL (K:PySem.W.Frag):R2:=fun x y H Q=>∃ a b xs ys,x=.ref a∧y=.ref b∧SqL K H a xs∧SqL K H b ys∧xs.all flatV=true∧ys.all flatV=true∧Q (.bl (eqVs xs ys)) H
theorem zkR (hu:X.A.units < cLine):OpR X (compareOp .Eq) (rEqL X.K):=by
 intro pins s σ H x y v u Q I rx ry h;obtain ⟨a,b,xs,ys,rfl,rfl,h1,h2,f1,f2,q⟩:=h
 cases rx
 cases ry
 obtain ⟨its1,r1,p1,z1⟩:=I.list h1;obtain ⟨its2,r2,p2,z2⟩:=I.list h2;have l1:=r1.length;have l2:=r2.length
 by_cases hl:xs.length=ys.length
 ·refine SeqAt.eq_listAt (e:=fun j=>eqV (xs.getD j .non) (ys.getD j .non)) p1.isList p2.isList (by simp;omega) hu (fun j h1 h2=>?_) ⟨.bl _,H,I,rfl,?_⟩
  ·simp only [List.size_toArray] at h1 h2;have e1:xs[j]? = some (xs.getD j .non):=by rw [List.getD_eq_getElem?_getD,List.getElem?_eq_getElem (by omega)];rfl
   have e2:ys[j]? = some (ys.getD j .non):=by rw [List.getD_eq_getElem?_getD,List.getElem?_eq_getElem (by omega)];rfl
   obtain ⟨u1,a1,b1⟩:=r1.get e1;obtain ⟨u2,a2,b2⟩:=r2.get e2;have c1:its1.toArray[j]=u1:=by simpa [List.getElem?_eq_getElem h1] using a1
   have c2:its2.toArray[j]=u2:=by simpa [List.getElem?_eq_getElem h2] using a2
   rw [c1,c2];exact zhp b1 b2 (List.all_eq_true.mp f1 _ (List.mem_of_getElem? e1)) (List.all_eq_true.mp f2 _ (List.mem_of_getElem? e2))
  ·have e:its1.toArray.size=xs.length:=by simp;omega
   rw [e,eqVs_all hl];exact q
 ·refine SeqAt.eq_list_lengthsAt p1.isList p2.isList (by simp;omega) hu ⟨.bl false,H,I,rfl,?_⟩;rw [← eqVs_len hl];exact q
def zjS (K:PySem.W.Frag):R2:=fun x y H Q=>rEq x y H Q∨rEqL K x y H Q
theorem zjT (h:X.K=K) (hu:X.A.units < cLine):OpR X (compareOp .Eq) (zjS K):=op_eq.or (h▸zkR hu)
end
section
variable {H:Hp} {K:PySem.W.Frag} {Q:VK} {i j:Int}
theorem zjU (q:Q (.bl (decide (i=j))) H):zjS K (.int i) (.int j) H Q:=.inl (zlC q)
theorem zjV {x:Int} {xs:List Int}:inV (.int x) (xs.map V.int)=decide (x∈xs):=by
 unfold inV;rw [Bool.eq_iff_iff,List.any_eq_true];simp only [List.mem_map,decide_eq_true_eq];constructor
 ·rintro ⟨v,⟨y,hy,rfl⟩,e⟩;have e':y=x:=by simpa [eqV] using e
  rw [← e'];exact hy
 ·intro h;exact ⟨_,⟨x,h,rfl⟩,by simp [eqV]⟩
theorem zlO {a:Addr} {xs:List Int} (h:SqL K H a (xs.map V.int)) (q:Q (.bl (decide (i∈xs))) H):rIn K false (.int i) (.ref a) H Q :=
 ⟨a,_,rfl,.inl h,rfl,by simp [flatV],by rw [zjV];exact q⟩
end
end L2
namespace L2
open PySem PySem.Spec PyProof.Rows
def zda (a:Option Int) (x:Int):Option Int:=match a with
 | none=>some x
 | some m=>if x > m then some x else some m
theorem zdB {m x:Int}:zda (some m) x=if m < x then some x else some m:=rfl
def mxOf (a:Option Int) (ns:List Int):Option Int:=ns.foldl zda a
def zkS (h:Heap) (S:Addr) (a:Option Int):Prop:=∃ (c:Nat),match a with
 | none=>h.get? S=some { cls:=.type "list",data:=.seq #[] c }
 | some m=>∃ t,h.get? S=some { cls:=.type "list",data:=.seq #[.int m t,.int m t] c }
section
variable {prog:Program} {w:World} {A:Around} {R:Result→Shared→Prop}
theorem zjW {I l S:Addr} {us:List Value} {ns:List Int} {d:Value} (hh:A.handled=none) (hlI:l≠I) (hSI:S≠I) (hSl:S≠l) (ru:Vals (ns.map V.int) us) :
  ∀ (k j:Nat) (a:Option Int) (s:Shared),j+k=ns.length→s.heap.IsListIter I l j→s.heap.IsList l us.toArray→zkS s.heap S a →
   (∀ v h' tk,(match mxOf a (ns.drop j) with | none=>v=d | some m=>∃ t,v=.int m t)→(∀ b o,b≠I→b≠S→s.heap.get? b=some o→h'.get? b=some o)→R (.ok (.ret v)) { s with heap:=h',toks:=tk }) →
   codeAny (model prog w) A (.builtin "max.loop" ⟨[.ref I,.none,.ref S],[(Str.ofString "default",d)]⟩) R s:=by
 have lus:us.length=ns.length:=by have:=ru.length;rw [List.length_map] at this;exact this.symm
 have W:=Walks.list (prog:=prog) (w:=w) (A:=A.in1) (show A.in1.handled=none from hh) I l hlI us.toArray;have hname:(toString "max"++toString ".loop" : String) = "max.loop":=by decide
 intro k
 induction k with
 | zero =>
   intro j a s hj hit hls hb hR;have ej:j=us.toArray.size:=by simp;omega
   refine codeAny_builtin (b:=Builtin.«max.loop») PySem.F.entry_max_loop ?_;rw [show A.under (.builtin "max.loop" _)=A.in1 from Around.under_plainId PySem.F.plain_max_loop _];have ed:mxOf a (ns.drop j)=a:=by rw [List.drop_eq_nil_of_le (by omega)];rfl
   rw [ed] at hR;obtain ⟨c,hb⟩:=hb
   cases a with
   | none =>
     show wpAny _ A.in1 ((seqItems? (.ref S)) >>= _) _ _ _;refine wpAny_bind (wpAny_seqItems (o:={ cls:=.type "list",data:=.seq #[] c }) hb rfl ?_);refine wpAny_bind (m:=tryCatch (pyNext (.ref I)) _) (wpAny_tryCatch (W.done s _ _ (ej▸⟨hit,hls⟩) fun h' tk kk=>?_));refine wpAny_bind (wpAny_rule (wpAny_pure ?_));exact hR d h' tk rfl fun b o h1 _ e=>kk b o (by simpa using h1) e
   | some m =>
     obtain ⟨t,hb⟩:=hb;show wpAny _ A.in1 ((seqItems? (.ref S)) >>= _) _ _ _;refine wpAny_bind (wpAny_seqItems (o:={ cls:=.type "list",data:=.seq #[.int m t,.int m t] c }) hb rfl ?_);refine wpAny_bind (m:=tryCatch (pyNext (.ref I)) _) (wpAny_tryCatch (W.done s _ _ (ej▸⟨hit,hls⟩) fun h' tk kk=>?_));have hb':=kk S _ (by simpa using hSI) hb;show wpAny _ A.in1 ((updateSeq S fun _=>#[]) >>= _) _ _ _;refine wpAny_bind (wpAny_updateSeq hb' rfl (wpAny_bind (wpAny_letGo (wpAny_pure ?_))));refine hR (.int m t) _ tk ⟨t,rfl⟩ fun b o h1 h2 e=>?_;exact (Heap.get?_update_other _ _ (Ne.symm h2)).trans (kk b o (by simpa using h1) e)
 | succ k ih =>
   intro j a s hj hit hls hb hR;have hjn:j < ns.length:=by omega
   have hlt:j < us.toArray.size:=by simp;omega
   have dj:ns.drop j=ns[j]::ns.drop (j+1):=List.drop_eq_getElem_cons hjn;obtain ⟨u,hu,ru'⟩:=ru.get (i:=j) (x:=.int ns[j]) (by rw [List.getElem?_map,List.getElem?_eq_getElem hjn];rfl);obtain ⟨tu,eu⟩:=ru';refine codeAny_builtin (b:=Builtin.«max.loop») PySem.F.entry_max_loop ?_;rw [show A.under (.builtin "max.loop" _)=A.in1 from Around.under_plainId PySem.F.plain_max_loop _];obtain ⟨c,hb⟩:=hb
   cases a with
   | none =>
     show wpAny _ A.in1 ((seqItems? (.ref S)) >>= _) _ _ _;refine wpAny_bind (wpAny_seqItems (o:={ cls:=.type "list",data:=.seq #[] c }) hb rfl ?_);refine wpAny_bind (m:=tryCatch (pyNext (.ref I)) _) (wpAny_tryCatch (W.item j s _ _ hlt ⟨hit,hls⟩ fun v h' tk hv st' kk=>?_));have ev:v=.int ns[j] tu:=by
      have hv':us.toArray[j]? = some v:=hv;rw [List.getElem?_toArray,hu] at hv';rw [← eu];exact (Option.some.inj hv').symm
     subst ev;have hb':=kk S _ (by simpa using hSI) hb;show wpAny _ A.in1 ((updateSeq S fun _=>#[Value.int ns[j] tu,Value.int ns[j] tu]) >>= _) _ _ _;refine wpAny_bind (wpAny_updateSeq hb' rfl ?_);rw [hname];have o1:∀ b o,b≠S→h'.get? b=some o→(h'.update S (Obj.mapSeq fun _=>#[Value.int ns[j] tu,Value.int ns[j] tu])).get? b=some o:=fun b o hbS e=>(Heap.get?_update_other _ _ (Ne.symm hbS)).trans e;refine wpAny_pure ⟨plainId_quiet PySem.F.plain_max_loop _,ih (j+1) (some ns[j]) _ (by omega) (st'.1.at fun o e=>o1 I o (Ne.symm hSI) e) (st'.2.at fun o e=>o1 l o (Ne.symm hSl) e) ⟨_,tu,Heap.get?_update_self _ hb' rfl⟩ fun v' h'' tk'' hv' k''=>?_⟩;refine hR v' h'' tk'' ?_ fun b o h1 h2 e=>k'' b o h1 h2 (o1 b o h2 (kk b o (by simpa using h1) e));rw [dj];exact hv'
   | some m =>
     obtain ⟨t,hb⟩:=hb;show wpAny _ A.in1 ((seqItems? (.ref S)) >>= _) _ _ _;refine wpAny_bind (wpAny_seqItems (o:={ cls:=.type "list",data:=.seq #[.int m t,.int m t] c }) hb rfl ?_);refine wpAny_bind (m:=tryCatch (pyNext (.ref I)) _) (wpAny_tryCatch (W.item j s _ _ hlt ⟨hit,hls⟩ fun v h' tk hv st' kk=>?_));have ev:v=.int ns[j] tu:=by
      have hv':us.toArray[j]? = some v:=hv;rw [List.getElem?_toArray,hu] at hv';rw [← eu];exact (Option.some.inj hv').symm
     subst ev;have hb':=kk S _ (by simpa using hSI) hb;refine wpAny_bind (m:=tryCatch (holding [Value.int ns[j] tu,Value.int ns[j] tu] (richCompare .Gt (Value.int ns[j] tu) (.int m t) >>= _)) _) (wpAny_tryCatch (wpAny_holding (wpAny_bind ?_)));refine (gt_int ?_:wpAny (model prog w) A.in1 (compareOp .Gt (.int ns[j] tu) (.int m t)) _ _ _);refine wpAny_bind (wpAny_holding (wpAny_truthy_bool (wpAny_bind (wpAny_letGo (wpAny_pure ?_)))));have o1:∀ b o,b≠S→h'.get? b=some o→(h'.update S (Obj.mapSeq fun _=>#[Value.int ns[j] tu,Value.int ns[j] tu])).get? b=some o:=fun b o hbS e=>(Heap.get?_update_other _ _ (Ne.symm hbS)).trans e
     by_cases hgt:m < ns[j]
     ·rw [show decide (m < ns[j])=true from decide_eq_true hgt];simp only [if_true];refine wpAny_bind (wpAny_updateSeq hb' rfl (wpAny_bind (wpAny_letGo ?_)));rw [hname];refine wpAny_pure ⟨plainId_quiet PySem.F.plain_max_loop _,ih (j+1) (some ns[j]) _ (by omega) (st'.1.at fun o e=>o1 I o (Ne.symm hSI) e) (st'.2.at fun o e=>o1 l o (Ne.symm hSl) e) ⟨_,tu,Heap.get?_update_self _ hb' rfl⟩ fun v' h'' tk'' hv' k''=>?_⟩;refine hR v' h'' tk'' ?_ fun b o h1 h2 e=>k'' b o h1 h2 (o1 b o h2 (kk b o (by simpa using h1) e));rw [dj];have e1:mxOf (some m) (ns[j]::ns.drop (j+1))=mxOf (some ns[j]) (ns.drop (j+1)):=by
       show mxOf (zda (some m) ns[j]) _=_;rw [zdB,if_pos hgt]
      rw [e1];exact hv'
     ·rw [show decide (m < ns[j])=false from decide_eq_false hgt];simp only [Bool.false_eq_true,if_false];refine wpAny_bind (wpAny_letGo ?_);rw [hname];refine wpAny_pure ⟨plainId_quiet PySem.F.plain_max_loop _,ih (j+1) (some m) _ (by omega) st'.1 st'.2 ⟨c,t,hb'⟩ fun v' h'' tk'' hv' k''=>?_⟩;refine hR v' h'' tk'' ?_ fun b o h1 h2 e=>k'' b o h1 h2 (kk b o (by simpa using h1) e);rw [dj];have e1:mxOf (some m) (ns[j]::ns.drop (j+1))=mxOf (some m) (ns.drop (j+1)):=by
       show mxOf (zda (some m) ns[j]) _=_;rw [zdB,if_neg hgt]
      rw [e1];exact hv'
end
theorem zhB (a d:Value):argsOk "max" ⟨[a],[(Str.ofString "default",d)]⟩:=by unfold argsOk;kernel_rfl
section
variable {X:Cx} {K:PySem.W.Frag}
def zdC (K:PySem.W.Frag) (x y:V) (H:Hp) (Q:VK):Prop:=∃ a ns d,x=.ref a∧y=.int d∧SqL K H a (ns.map V.int)∧Q (.int ((mxOf none ns).getD d)) H
def ziE (K:PySem.W.Frag) (vs zs:List V) (H:Hp) (Q:VK):Prop:=match vs,zs with
 | [x],[y]=>zdC K x y H Q
 | _,_=>False
def zkT (K:PySem.W.Frag) (ta td:TE):TE:=fun σ H Q=>ta σ H fun x H1=>td σ H1 fun y H2=>zdC K x y H2 Q
theorem zd5 {a d:Expr} {ta td:TE} {p pos kpos:Pos} (hK:X.K=K) (hc:X.calm=true) (hg:Gl X "max") (hm:X.mg "max" = none) (ha:PE X a ta) (hd:PE X d td)
  (hs:starEach [a] X.env=(false,eval a X.env)::starEach [] X.env:=by rfl) (hb:bootBuiltins "max" = some (.builtin "max"):=by rfl)
  (he:backTo pos (starEach [a] X.env)=(false,eval a X.env)::backTo pos (starEach [] X.env):=by rfl) (hpl:(backTo pos (starEach [a] X.env)).any (·.1)=false:=by rfl) :
  PE X (.Call (.Name "max" p) [a] [⟨some "default",d,kpos⟩] pos) (zkT K ta td):=by
 subst hK;intro pins s σ H Q I h;refine wpAny_Call_Name_kw (zc8 I hg hm hb ?_ (by decide) (by decide));have h':zhk ta tNil σ H fun vs H1=>zhk td tNil σ H1 fun zs H2=>ziE X.K vs zs H2 Q:=h;refine callWith_kw (thn ((zaa ha pa_nil hs) pos pins s σ H _ I h') fun us s1 ⟨vs,H1,I1,r1,q1⟩=>thn ((zhm hd pk_nil) pos pins s1 σ H1 _ I1 q1) fun ws s2 ⟨zs,H2,I2,r2,q2⟩=>?_) he hpl rfl rfl;obtain ⟨x,y,rfl,rfl,l,ns,dd,rfl,rfl,hl,q⟩:∃ x y,vs=[x]∧zs=[y]∧zdC X.K x y H2 Q:=by
  match vs,zs,q2 with
  | [x],[y],q2=>exact ⟨x,y,rfl,rfl,q2⟩
 obtain ⟨u,rfl,ru⟩:=r1.one;obtain ⟨v,rfl,rv⟩:=r2.one
 cases ru
 obtain ⟨td',rfl⟩:=rv;obtain ⟨its,rvs,pl,hz⟩:=I2.list hl;refine kmk_tree PySem.F.kind_max PySem.F.plain_max PySem.F.entry_max (zhB _ _) ?_;have hname:(toString "max"++toString ".loop" : String) = "max.loop":=by decide
 refine wpAny_bind (m:=Builtin.Builtins.bindParams "max" ["key","default"] 0 ⟨[],[(Str.ofString "default",Value.int dd td')]⟩) (wpAny_of_eq (show _=pure [none,some (Value.int dd td')] from rfl) ?_);refine wpAny_bind (wpAny_pure (wpAny_bind (wpAny_pyIter_list pl.isList (wpAny_bind (wpAny_newObj_type ?_)))));rw [hname];have L:=pl.isList;obtain ⟨ol,el,_⟩:=id L;have Ll:=Heap.lt_size el;have hsz:(s2.heap.push { cls:=.type "list_iterator",data:=.fields #[.ref l,.int 0 0] }).objs.size=s2.heap.objs.size+1:=Heap.size_push ..;refine wpAny_pure ⟨plainId_quiet PySem.F.plain_max_loop _,zjW (I:=s2.heap.objs.size) (l:=l) (us:=its) (ns:=ns) (I2.ok.hd hc) (Nat.ne_of_lt Ll) (by rw [hsz];exact Nat.succ_ne_self _) (by rw [hsz];exact Nat.ne_of_gt (Nat.lt_succ_of_lt Ll)) rvs ns.length 0 none _ (by omega) ?_ ?_ ?_ ?_⟩
 ·exact ⟨_,Heap.get?_push_of_some _ (Heap.get?_push_size _ rfl),rfl,rfl⟩
 ·exact L.at fun o e=>Heap.get?_push_of_some _ (Heap.get?_push_of_some _ e)
 ·exact ⟨0,Heap.get?_push_size _ rfl⟩
 ·intro v h' tk hv kk;refine ⟨.int ((mxOf none ns).getD dd),H2,I2.kept (fun b o e=>kk b o (Nat.ne_of_lt (Heap.lt_size e)) (by rw [hsz];exact Nat.ne_of_lt (Nat.lt_succ_of_lt (Heap.lt_size e))) (Heap.get?_push_of_some _ (Heap.get?_push_of_some _ e))),?_,q⟩;rw [List.drop_zero] at hv
  cases em:mxOf none ns with
  | none=>rw [em] at hv;exact ⟨td',hv⟩
  | some m=>rw [em] at hv;exact hv
end
section
variable {σ:St} {H:Hp} {Q:VK} {K:PySem.W.Frag} {ta td:TE}
theorem zkU (h:ta σ H fun x H1=>td σ H1 fun y H2=>zdC K x y H2 Q):zkT K ta td σ H Q:=h
theorem ziF {a:Addr} {ns:List Int} {d:Int} (h:SqL K H a (ns.map V.int)) (q:Q (.int ((mxOf none ns).getD d)) H):zdC K (.ref a) (.int d) H Q:=⟨a,ns,d,rfl,rfl,h,q⟩
end
end L2
namespace Prf
open PySem PySem.Spec PyProof.Rows L2
def zbQ (ns:List Int) (k:Int):Int:=if (ns.length:Int)=0 then 0 else ns.getD (k % ns.length).toNat 0+k / ns.length
def lexB:List Int→List Int→Bool
 | x::xs,y::ys=>if x=y then lexB xs ys else decide (x < y)
 | _,_=>false
def zcb (xs ys:List Int):Bool:=if (xs.length:Int)=ys.length then lexB xs ys else decide ((xs.length:Int) < ys.length)
theorem map_ref_inj:∀ {ps qs:List Addr},ps.map V.ref=qs.map V.ref→ps=qs
 | [],[],_=>rfl
 | p::ps,q::qs,h=>by
   rw [List.map_cons,List.map_cons] at h;obtain ⟨h1,h2⟩:=List.cons.inj h;rw [V.ref.inj h1,map_ref_inj h2]
structure SetM (m:Int) (xs:List Int):Prop where
 up:xs.Pairwise (· < ·)
 rng:∀ x∈xs,1≤x∧x≤m
theorem SetM.len {m:Int}:∀ {xs:List Int} {l:Int},xs.Pairwise (· < ·)→(∀ x∈xs,l < x∧x≤m)→l≤m→(xs.length:Int)≤m-l
 | [],l,_,_,h=>by simp;omega
 | x::r,l,hp,hb,h=>by
   obtain ⟨h1,h2⟩:=List.pairwise_cons.mp hp;have hx:=hb x List.mem_cons_self;have:=SetM.len (l:=x) h2 (fun y hy=>⟨h1 y hy,(hb y (List.mem_cons_of_mem _ hy)).2⟩) hx.2;rw [List.length_cons];omega
theorem SetM.few {m:Int} {xs:List Int} (h:SetM m xs) (m0:0≤m):(xs.length:Int)≤m:=by
 have:=SetM.len (l:=0) h.up (fun x hx=>by have:=h.rng x hx;omega) m0;omega
def zbv (hs:List Int) (r:List Int) (n:Int) (x:Int):Int:=if r.getD 0 0≠hs.getD (x-1).toNat 0∧n < r.getD 1 0 then n+1 else n
def zbj (hs:List Int) (r:List Int) (xs:List Int):Int:=xs.foldl (zbv hs r) 0
def zbT (hs:List Int) (rs:List (List Int)) (xs:List Int):Int:=(rs.map fun r=>zbj hs r xs).sum
theorem zfO (hs:List Int) (rs:List (List Int)) (xs:List Int) (i:Nat) (h:i < rs.length):zbT hs (rs.take (i+1)) xs=zbT hs (rs.take i) xs+zbj hs (rs.getD i []) xs:=by
 unfold zbT;rw [List.take_add_one,List.getElem?_eq_getElem h,List.map_append,List.sum_append,List.getD_eq_getElem?_getD,List.getElem?_eq_getElem h];simp
theorem zhC {xs:List Int} {i:Nat} {x:V} (hx:(xs.map V.int)[i]? = some x):i < xs.length∧x=.int (xs.getD i 0):=by
 have hi:i < xs.length:=by
  have:=(List.getElem?_eq_some_iff.mp hx).1;simpa using this
 refine ⟨hi,?_⟩;rw [List.getElem?_map,List.getElem?_eq_getElem hi] at hx;rw [List.getD_eq_getElem?_getD,List.getElem?_eq_getElem hi];exact (Option.some.inj hx).symm
theorem zjX {xs:List Addr} {i:Nat} {x:V} (hx:(xs.map V.ref)[i]? = some x):i < xs.length∧x=.ref (xs.getD i 0):=by
 have hi:i < xs.length:=by
  have:=(List.getElem?_eq_some_iff.mp hx).1;simpa using this
 refine ⟨hi,?_⟩;rw [List.getElem?_map,List.getElem?_eq_getElem hi] at hx;rw [List.getD_eq_getElem?_getD,List.getElem?_eq_getElem hi];exact (Option.some.inj hx).symm
theorem getD_mem {α:Type} {xs:List α} {d:α} {i:Nat} (h:i < xs.length):xs.getD i d∈xs:=by
 rw [List.getD_eq_getElem?_getD,List.getElem?_eq_getElem h];exact List.getElem_mem h
end Prf
namespace L2
open PySem PySem.Spec PyProof.Rows
section
variable {X:Cx} {K:PySem.W.Frag}
def cMin2:List V→Hp→VK→Prop:=fun xs H Q=>∃ i j,xs=[.int i,.int j]∧Q (.int (if j < i then j else i)) H
def cMax2:List V→Hp→VK→Prop:=fun xs H Q=>∃ i j,xs=[.int i,.int j]∧Q (.int (if j > i then j else i)) H
theorem zgD (hc:X.calm=true):zck X (.builtin "min") cMin2:=zhg hc
theorem zgE (hc:X.calm=true):zck X (.builtin "max") cMax2:=zhf hc
def CBig (i j:Int):Prop:=0 < j∧j < 2 ^ 200
theorem op_fdivB:OpR X (binaryOp .FloorDiv) (rI CBig fun i j=>.int (i / j)):=opI fun i j _ _ _ _ _ hc q=>by
 obtain ⟨h1,h2⟩:=hc;have hl:j.natAbs.log2 < 9000:=by
  have h3:j.natAbs < 2 ^ 200:=by
   have e:(j.natAbs:Int)=j:=Int.natAbs_of_nonneg (by omega);have:(j.natAbs:Int) < ((2 ^ 200:Nat):Int):=by rw [e];exact h2
   exact Int.ofNat_lt.mp this
  have h4:j.natAbs.log2 < 200:=(Nat.log2_lt (by omega)).mpr h3;omega
 refine floordiv_int (by omega) ?_ (.inl (PyProof.noPylong_of_log2 hl));rw [Int.fdiv_eq_ediv_of_nonneg i (by omega)];exact q
end
section
variable {σ:St} {H:Hp} {Q:VK} {K:PySem.W.Frag} {i j:Int} {p:Addr} {xs:List V} {ta:TA} {te:TE} {tl th:TO}
theorem zkV (q:Q (.int (if j < i then j else i)) H):cMin2 [.int i,.int j] H Q:=⟨i,j,rfl,q⟩
theorem zkW (q:Q (.int (if j > i then j else i)) H):cMax2 [.int i,.int j] H Q:=⟨i,j,rfl,q⟩
theorem zkX {f:Int→Int→V} (c1:0 < j) (c2:j < 2 ^ 200) (q:Q (f i j) H):rI CBig f (.int i) (.int j) H Q:=⟨i,j,rfl,rfl,⟨c1,c2⟩,q⟩
theorem zlP {f:Int→Int→V} (c:CPow i j) (q:Q (f i j) H):rI CPow f (.int i) (.int j) H Q:=⟨i,j,rfl,rfl,c,q⟩
theorem r_sl {r:V→Option Int→Option Int→Hp→VK→Prop} (h:te σ H fun x H1=>tl σ H1 fun l H2=>th σ H2 fun u H3=>r x l u H3 Q):tSl r te tl th σ H Q:=h
theorem zjY {QO:Option Int→Hp→Prop} (h:QO none H):tNoPart σ H QO:=h
theorem zkY {QO:Option Int→Hp→Prop} (h:te σ H fun x H1=>∃ i,x=.int i∧QO (some i) H1):zky te σ H QO:=h
theorem zjZ {P:Int→Prop} (h:P i):∃ k,V.int i=.int k∧P k:=⟨i,rfl,h⟩
theorem zbx {lo hi:Option Int} (h:SqL K H p xs) (q:∀ l H2,H l=none→Same H H2→H2 l=some (.lst (cutV xs lo hi))→Q (.ref l) H2):rSlL K (.ref p) lo hi H Q:=⟨p,xs,rfl,h,fun l hl=>q l _ hl (zaC hl) zaq⟩
theorem zj0 (k:Nat):cutV xs none (some (k:Int))=xs.take k:=by
 unfold cutV;rw [HT.sIx_none,HT.sIx_nat,List.drop_zero,Nat.sub_zero]
 by_cases h:k≤xs.length
 ·rw [Nat.min_eq_left h]
 ·rw [Nat.min_eq_right (by omega),List.take_of_length_le (Nat.le_refl _),List.take_of_length_le (by omega)]
theorem zhD (k:Nat):cutV xs (some (k:Int)) none=xs.drop k:=by
 unfold cutV;rw [HT.sIx_none,HT.sIx_nat]
 by_cases h:k≤xs.length
 ·rw [Nat.min_eq_left h,List.take_of_length_le (by rw [List.length_drop];omega)]
 ·rw [Nat.min_eq_right (by omega),List.drop_eq_nil_of_le (Nat.le_refl _),List.drop_eq_nil_of_le (by omega)];simp
end
end L2
namespace Prf
open PySem PySem.Spec PyProof.Rows L2
def cntB (rows:List (List Int)) (x:Int):Nat:=(rows.filter fun r=>decide (x∈r)).length
theorem zhE (rows:List (List Int)) (x:Int):((List.range rows.length).filter fun i=>decide (x∈rows.getD i [])).length=cntB rows x:=by
 unfold cntB
 induction rows with
 | nil=>rfl
 | cons r rs ih =>
   rw [List.length_cons,List.range_succ_eq_map,List.filter_cons,List.filter_cons,List.filter_map,];have e:((fun i=>decide (x∈(r::rs).getD i []))∘Nat.succ)=fun i=>decide (x∈rs.getD i []):=by funext i;rfl
   rw [e]
   by_cases h:x∈r
   ·simp only [List.getD_cons_zero,h,decide_true,if_true,List.length_cons,List.length_map];rw [ih]
   ·simp only [List.getD_cons_zero,h,decide_false,Bool.false_eq_true,if_false,List.length_map];exact ih
theorem ziG {K:PySem.W.Frag} {σ:L2.St} {H:Hp} {Q:VK} {js:List Nat} {tc:TT} {a:Addr} {ps:List Addr} {rows:List (List Int)} {x:Int} (h1:SqL K H a (ps.map V.ref)) (h2:ps.length=rows.length) (hz:rows.length≤1000)
  (ht:∀ i H' (Q':Bool→Hp→Prop),i < rows.length→Same H H'→Q' (decide (x∈rows.getD i [])) H'→tc (some (.ref (ps.getD i 0))::capV js σ) H' Q')
  (hq:∀ p H2 zs,H p=none→Same H H2→H2 p=some (.lst zs)→zs.length=cntB rows x→Q (.ref p) H2):zeA (Itl K a) js tc (tVar 0) σ H Q:=by
 have ex:∀ i,i < rows.length→(ps.map V.ref).getD i .non=.ref (ps.getD i 0):=fun i hi=>by
  rw [List.getD_eq_getElem?_getD,List.getElem?_map,List.getElem?_eq_getElem (by omega),List.getD_eq_getElem?_getD,List.getElem?_eq_getElem (by omega)];rfl
 have hl:(ps.map V.ref).length=rows.length:=by rw [List.length_map,h2]
 refine za0 (zaZ h1) (by rw [hl];exact zaH hz) (fun i=>decide (x∈rows.getD i [])) (fun i=>.ref (ps.getD i 0)) (fun i H' Q' hi s q=>?_) (fun i H' Q' hi s _ q=>?_) fun p hp=>?_
 ·show tc (some ((ps.map V.ref).getD i .non)::capV js σ) H' Q';rw [hl] at hi;rw [ex i hi];exact ht i H' Q' hi s q
 ·show tVar 0 (some ((ps.map V.ref).getD i .non)::capV js σ) H' Q';rw [hl] at hi;rw [ex i hi];exact zjK (i:=0) rfl q
 ·refine hq p _ _ hp (zaC hp) zaq ?_;rw [List.length_map,hl,zhE]
end Prf
namespace L2
open PySem PySem.Spec PyProof.Rows
section
variable {X:Cx} {K:PySem.W.Frag}
def rIsN:R2:=fun x y H Q=>y=.non∧Q (.bl (decide (x=.non))) H
theorem op_isNN:OpR X (compareOp .Is) rIsN:=op_isN
def zj1 (i j:Int):Prop:=CMul i j∨((-(2 ^ 210) < i∧i < 2 ^ 210)∧-(2 ^ 210) < j∧j < 2 ^ 210)
theorem zhF {k:Int} (h1 : -(2 ^ 210) < k) (h2:k < 2 ^ 210):Builtin.Int.intBits k≤210:=by
 unfold Builtin.Int.intBits;split
 ·exact Nat.zero_le _
 ·have hn:k.natAbs < 2 ^ 210:=by omega
  have:k.natAbs.log2 < 210:=by
   rcases Nat.eq_zero_or_pos k.natAbs with h0 | hp
   ·rw [h0];decide
   ·exact (Nat.log2_lt (by omega)).mpr hn
  omega
theorem op_mulB:OpR X (binaryOp .Mult) (rI zj1 fun i j=>.int (i * j)):=opI fun _ _ _ _ _ _ _ hc q=>mul_int q (by
 rcases hc with h | ⟨⟨h1,h2⟩,h3,h4⟩
 ·exact h.ok
 ·exact PySem.IntMulOk.of_le (zhF h1 h2) (zhF h3 h4) (by decide))
end
theorem zkZ {Q:VK} {H:Hp} {f:Int→Int→V} {i j:Int} (c:zj1 i j) (q:Q (f i j) H):rI zj1 f (.int i) (.int j) H Q:=⟨i,j,rfl,rfl,c,q⟩
section
variable {σ:St} {H:Hp} {Q:VK} {K:PySem.W.Frag} {x:V}
theorem zlQ (q:Q (.bl (decide (x=.non))) H):rIsN x .non H Q:=⟨rfl,q⟩
theorem ze8 (xs:List V) (c:V→Bool):((List.range xs.length).filter fun i=>c (xs.getD i .non)).map (fun i=>xs.getD i .non)=xs.filter c:=by
 induction xs with
 | nil=>rfl
 | cons y ys ih =>
   rw [List.length_cons,List.range_succ_eq_map,List.filter_cons,List.filter_map,List.filter_cons];have e:((fun i=>c ((y::ys).getD i .non))∘Nat.succ)=fun i=>c (ys.getD i .non):=by funext i;rfl
   have e2:∀ l:List Nat,(l.map Nat.succ).map (fun i=>(y::ys).getD i .non)=l.map fun i=>ys.getD i .non:=fun l=>by rw [List.map_map];rfl
   rw [e]
   cases h:c y with
   | true =>
     simp only [List.getD_cons_zero,h,if_true,List.map_cons];rw [e2,ih]
   | false =>
     simp only [List.getD_cons_zero,h,Bool.false_eq_true,if_false];rw [e2,ih]
theorem zhG {js:List Nat} {tc:TT} {a:Addr} {xs:List V} (h:SqL K H a xs) (hz:xs.length≤1000) (c:V→Bool)
  (ht:∀ i H' (Q':Bool→Hp→Prop),i < xs.length→Same H H'→Q' (c (xs.getD i .non)) H'→tc (some (xs.getD i .non)::capV js σ) H' Q')
  (hq:∀ p H2,H p=none→Same H H2→H2 p=some (.lst (xs.filter c))→Q (.ref p) H2):zeA (Itl K a) js tc (tVar 0) σ H Q:=by
 refine za0 (zaZ h) (zaH hz) (fun i=>c (xs.getD i .non)) (fun i=>xs.getD i .non) ht (fun i H' Q' _ _ _ q=>zjK (i:=0) rfl q) fun p hp=>hq p _ hp (zaC hp) ?_;rw [zaq,ze8]
end
end L2
namespace Prf
open PySem PySem.Spec PyProof.Rows L2
def zhH (rs:List (List Int)) (h:Int) (row:List Int):Bool :=
 decide (row.length=2) && row.all (fun x=>decide (1≤x) && decide (x≤(rs.length:Int)) && !decide ((rs.getD (x-1).toNat []).getD 0 0=h)) && decide (row.getD 0 0 < row.getD 1 0)
def zcc (hs:List Int) (rs rows:List (List Int)):Bool :=
 decide (rows.length=hs.length) && (List.range hs.length).all (fun k=>zhH rs (hs.getD k 0) (rows.getD k [])) && (List.range rs.length).all (fun k=>decide ((cntB rows (0+(k:Int)+1):Int)≤(rs.getD k []).getD 1 0))
theorem zco {n:Nat} {c:Nat→Bool} (h:∀ k,k < n→c k=true):(List.range n).all c=true:=List.all_eq_true.mpr fun k hk=>h k (List.mem_range.mp hk)
structure InB (hs:List Int) (rs:List (List Int)):Prop where
 lp:hs.length≤10
 lr:rs.length≤8
 hh:∀ i,i < hs.length→1≤hs.getD i 0∧hs.getD i 0≤6
 r2:∀ i,i < rs.length→(rs.getD i []).length=2
 rh:∀ i,i < rs.length→0≤(rs.getD i []).getD 0 0∧(rs.getD i []).getD 0 0≤6
 rl:∀ i,i < rs.length→0≤(rs.getD i []).getD 1 0∧(rs.getD i []).getD 1 0≤30
end Prf
namespace Hall
variable {n m:Nat} {L d:Nat→Nat} {A:Nat→Nat→Bool}
end Hall
namespace Hall
variable {n m:Nat} {L d:Nat→Nat} {A:Nat→Nat→Bool}
end Hall
namespace Prf
open PySem PySem.Spec PyProof.Rows L2
def agB (hs:List Int) (rs:List (List Int)) (xs:List Int):Bool:=decide (zbT hs rs xs < 2 * (xs.length:Int))
theorem zdr (hs r:List Int):∀ (xs:List Int) (n0:Int),n0≤r.getD 1 0 →
  xs.foldl (zbv hs r) n0=min (r.getD 1 0) (n0+((xs.filter fun x=>!decide (r.getD 0 0=hs.getD (x-1).toNat 0)).length:Int))
 | [],n0,h=>by
   show n0=min (r.getD 1 0) (n0+0);omega
 | x::xs,n0,h=>by
   rw [List.foldl_cons,List.filter_cons]
   by_cases e:r.getD 0 0=hs.getD (x-1).toNat 0
   ·have e1:zbv hs r n0 x=n0:=by unfold zbv;rw [if_neg (fun z=>z.1 e)]
    rw [e1,zdr hs r xs n0 h,decide_eq_true e];simp
   ·rw [decide_eq_false e]
    by_cases hl:n0 < r.getD 1 0
    ·have e1:zbv hs r n0 x=n0+1:=by unfold zbv;rw [if_pos ⟨e,hl⟩]
     rw [e1,zdr hs r xs (n0+1) (by omega)];simp only [Bool.not_false,if_true,List.length_cons];omega
    ·have e1:zbv hs r n0 x=n0:=by unfold zbv;rw [if_neg (fun z=>hl z.2)]
     rw [e1,zdr hs r xs n0 h];simp only [Bool.not_false,if_true,List.length_cons];omega
theorem len2 {l:List Int} (h:l.length=2):l=[l.getD 0 0,l.getD 1 0]:=by
 match l,h with
 | [a,b],_=>rfl
structure zk0 (hs:List Int) (rs rows:List (List Int)):Prop where
 len:rows.length=hs.length
 two:∀ k,k < hs.length→(rows.getD k []).length=2
 lo:∀ k,k < hs.length→1≤(rows.getD k []).getD 0 0
 lt:∀ k,k < hs.length→(rows.getD k []).getD 0 0 < (rows.getD k []).getD 1 0
 hi:∀ k,k < hs.length→(rows.getD k []).getD 1 0≤(rs.length:Int)
 a:∀ k,k < hs.length→(rs.getD ((rows.getD k []).getD 0 0-1).toNat []).getD 0 0≠hs.getD k 0
 b:∀ k,k < hs.length→(rs.getD ((rows.getD k []).getD 1 0-1).toNat []).getD 0 0≠hs.getD k 0
 lim:∀ k,k < rs.length→(cntB rows ((k:Int)+1):Int)≤(rs.getD k []).getD 1 0
theorem ze9 {rs:List (List Int)} {h:Int} {row:List Int}:zhH rs h row=true ↔
  row.length=2∧1≤row.getD 0 0∧row.getD 0 0 < row.getD 1 0∧row.getD 1 0≤(rs.length:Int)∧(rs.getD (row.getD 0 0-1).toNat []).getD 0 0≠h∧(rs.getD (row.getD 1 0-1).toNat []).getD 0 0≠h:=by
 unfold zhH;constructor
 ·intro z;simp only [Bool.and_eq_true,decide_eq_true_eq] at z;obtain ⟨⟨z1,z2⟩,z3⟩:=z;rw [len2 z1] at z2;simp only [List.all_cons,List.all_nil,Bool.and_eq_true,decide_eq_true_eq,Bool.not_eq_true',decide_eq_false_iff_not] at z2;obtain ⟨⟨⟨a1,a2⟩,a3⟩,⟨⟨b1,b2⟩,b3⟩,_⟩:=z2;exact ⟨z1,a1,z3,b2,a3,b3⟩
 ·rintro ⟨z1,a1,z3,b2,a3,b3⟩;have e:=len2 z1;generalize row.getD 0 0=x at *;generalize row.getD 1 0=y at *;subst e;simp only [List.all_cons,List.all_nil,Bool.and_eq_true,decide_eq_true_eq,Bool.not_eq_true',decide_eq_false_iff_not];refine ⟨⟨rfl,⟨⟨⟨by omega,by omega⟩,a3⟩,⟨⟨by omega,by omega⟩,b3⟩,trivial⟩⟩,z3⟩
theorem zfa {hs:List Int} {rs rows:List (List Int)}:zcc hs rs rows=true↔zk0 hs rs rows:=by
 unfold zcc;constructor
 ·intro z;simp only [Bool.and_eq_true,decide_eq_true_eq] at z;obtain ⟨⟨z1,z2⟩,z3⟩:=z;have h2:∀ k,k < hs.length→_:=fun k hk=>ze9.mp (List.all_eq_true.mp z2 k (List.mem_range.mpr hk));refine ⟨z1,fun k hk=>(h2 k hk).1,fun k hk=>(h2 k hk).2.1,fun k hk=>(h2 k hk).2.2.1,fun k hk=>(h2 k hk).2.2.2.1,fun k hk=>(h2 k hk).2.2.2.2.1,fun k hk=>(h2 k hk).2.2.2.2.2,fun k hk=>?_⟩;have:=List.all_eq_true.mp z3 k (List.mem_range.mpr hk);have e:(0:Int)+(k:Int)+1=(k:Int)+1:=by omega
  rw [e] at this;exact of_decide_eq_true this
 ·intro h;simp only [Bool.and_eq_true,decide_eq_true_eq];refine ⟨⟨h.len,zco fun k hk=>ze9.mpr ⟨h.two k hk,h.lo k hk,h.lt k hk,h.hi k hk,h.a k hk,h.b k hk⟩⟩,zco fun k hk=>?_⟩;have e:(0:Int)+(k:Int)+1=(k:Int)+1:=by omega
  rw [e];exact decide_eq_true (h.lim k hk)
def nbB:List (List Int)→List (List Int)→Bool
 | t::ts,r::rs=>if t.getD 0 0=r.getD 0 0 then (if t.getD 1 0=r.getD 1 0 then nbB ts rs else decide (t.getD 1 0 < r.getD 1 0)) else decide (t.getD 0 0 < r.getD 0 0)
 | _,_=>true
def zbh (hs:List Int) (rs:List (List Int)):Option (List Int)→Prop
 | none=>∀ ys,SetM hs.length ys→agB hs rs ys=false
 | some xs=>SetM hs.length xs∧agB hs rs xs=true∧∀ ys,SetM hs.length ys→agB hs rs ys=true→zcb ys xs=false
def za1 (hs:List Int) (rs:List (List Int)):Option (List (List Int))→Prop
 | none=>∀ rows,zcc hs rs rows=false
 | some t=>zcc hs rs t=true∧∀ rows,zcc hs rs rows=true→nbB t rows=true
theorem lexB_trans:∀ {xs ys zs:List Int},xs.length=ys.length→ys.length=zs.length→lexB xs ys=true→lexB ys zs=true→lexB xs zs=true
 | x::xs,y::ys,z::zs,l1,l2,h1,h2=>by
   unfold lexB at *
   by_cases e1:x=y
   ·rw [if_pos e1] at h1
    by_cases e2:y=z
    ·rw [if_pos e2] at h2;rw [if_pos (e1.trans e2)];exact lexB_trans (by simpa using l1) (by simpa using l2) h1 h2
    ·rw [if_neg e2] at h2;have:=of_decide_eq_true h2;rw [if_neg (by omega)];exact decide_eq_true (by omega)
   ·rw [if_neg e1] at h1;have h1':=of_decide_eq_true h1
    by_cases e2:y=z
    ·rw [if_neg (by omega)];exact decide_eq_true (by omega)
    ·rw [if_neg e2] at h2;have:=of_decide_eq_true h2;rw [if_neg (by omega)];exact decide_eq_true (by omega)
 | [],_,_,_,_,h1,_=>by unfold lexB at h1;cases h1
 | _::_,[],_,_,_,h1,_=>by unfold lexB at h1;cases h1
 | _::_,_::_,[],_,_,_,h2=>by unfold lexB at h2;cases h2
theorem zdb {xs ys zs:List Int} (h1:zcb xs ys=true) (h2:zcb ys zs=true):zcb xs zs=true:=by
 unfold zcb at *
 by_cases e1:(xs.length:Int)=ys.length
 ·rw [if_pos e1] at h1
  by_cases e2:(ys.length:Int)=zs.length
  ·rw [if_pos e2] at h2;rw [if_pos (e1.trans e2)];exact lexB_trans (by omega) (by omega) h1 h2
  ·rw [if_neg e2] at h2;have:=of_decide_eq_true h2;rw [if_neg (by omega)];exact decide_eq_true (by omega)
 ·rw [if_neg e1] at h1;have h1':=of_decide_eq_true h1
  by_cases e2:(ys.length:Int)=zs.length
  ·rw [if_neg (by omega)];exact decide_eq_true (by omega)
  ·rw [if_neg e2] at h2;have:=of_decide_eq_true h2;rw [if_neg (by omega)];exact decide_eq_true (by omega)
theorem lexB_self:∀ (xs:List Int),lexB xs xs=false
 | []=>rfl
 | x::xs=>by unfold lexB;rw [if_pos rfl];exact lexB_self xs
theorem zdD (xs:List Int):zcb xs xs=false:=by
 unfold zcb;rw [if_pos rfl];exact lexB_self xs
def zfb (m:Int):Int→List Int→Bool
 | _,[]=>true
 | l,x::r=>decide (l < x) && decide (x≤m) && zfb m x r
theorem zc3 {m:Int}:∀ {l:Int} {xs:List Int},zfb m l xs=true→xs.Pairwise (· < ·)∧∀ x∈xs,l < x∧x≤m
 | l,[],_=>⟨List.Pairwise.nil,by simp⟩
 | l,x::r,h=>by
   unfold zfb at h;simp only [Bool.and_eq_true,decide_eq_true_eq] at h;obtain ⟨⟨h1,h2⟩,h3⟩:=h;obtain ⟨p,b⟩:=zc3 h3;refine ⟨List.pairwise_cons.mpr ⟨fun y hy=>(b y hy).1,p⟩,fun y hy=>?_⟩;rcases List.mem_cons.mp hy with rfl | hy
   ·exact ⟨h1,h2⟩
   ·have:=b y hy;omega
def zgF (rs rows:List (List Int)):List Int:=(List.range rs.length).map fun k=>(rs.getD k []).getD 1 0-(cntB rows ((k:Int)+1):Int)
def leV (m:Int):V→Bool
 | .int i=>decide (i≤m)
 | _=>false
def neV (hs:List Int) (h:Int):V→Bool
 | .int x=>!decide (hs.getD (x-1).toNat 0=h)
 | _=>false
theorem zj2 (hs:List Int) (h:Int) (xs:List Int):((xs.map V.int).filter (neV hs h)).length=(xs.filter fun x=>!decide (h=hs.getD (x-1).toNat 0)).length:=by
 rw [List.filter_map,List.length_map]
 congr 1
 apply List.filter_congr;intro x _;show (!decide _)=(!decide _)
 congr 1
 exact decide_eq_decide.mpr ⟨Eq.symm,Eq.symm⟩
theorem zfc (hs:List Int) (h l:Int) (xs:List Int) (h0:0≤l):zbj hs [h,l] xs=min l (((xs.map V.int).filter (neV hs h)).length:Int):=by
 unfold zbj;rw [zdr hs [h,l] xs 0 h0,zj2];show min l (0+_)=_;rw [Int.zero_add];rfl
end Prf
namespace Prf
open PySem PySem.Spec PyProof.Rows L2
end Prf
namespace L2
open PySem PySem.Spec PyProof.Rows
theorem sum_rng:∀ (ns:List Int) (B:Int),0≤B→(∀ x∈ns,0≤x∧x≤B)→0≤ns.sum∧ns.sum≤B * ns.length
 | [],B,hB,_=>by simp
 | n::ns,B,hB,h=>by
   have h1:=h n List.mem_cons_self;have h2:=sum_rng ns B hB fun x hx=>h x (List.mem_cons_of_mem _ hx);rw [List.sum_cons,List.length_cons];have e:B * ((ns.length+1:Nat):Int)=B * ns.length+B:=by
    rw [Int.natCast_add,Int.mul_add];simp
   omega
section
variable {X:Cx} {K:PySem.W.Frag}
def cSum (K:PySem.W.Frag):List V→Hp→VK→Prop:=fun xs H Q=>∃ (a:Addr) (ns:List Int),xs=[.ref a]∧SqL K H a (ns.map V.int)∧(∀ x∈ns,0≤x∧x≤1000000)∧ns.length≤1000∧Q (.int ns.sum) H
theorem zhI (hK:X.K=K) (hc:X.calm=true):zck X (.builtin "sum") (cSum K):=by
 subst hK;intro pins s σ H xs us Q I r h;obtain ⟨a,ns,rfl,hl,hb,hz,q⟩:=h;obtain ⟨u,rfl,ru⟩:=r.one
 cases ru
 obtain ⟨its,rv,pl,_⟩:=I.list hl;have hi:=intsAre_of rv;have ha:AllInts its.toArray:=hi.allInts;obtain ⟨zs,ez⟩:=ha.items;have en:zs.toList.map (·.1)=ns:=by
  have h1:=nums_intItems zs;rw [← ez] at h1;rw [← h1];exact hi.numsOf
 refine sum_intList (xs:=zs) (I.ok.hd hc) (by rw [← ez];exact pl.isList) (fun j hj=>?_) fun h' tk t' k=>⟨.int ns.sum,H,I.kept k,⟨t',?_⟩,q⟩
 ·rw [numAt_eq,preSum_eq,en];have hjn:j < ns.length:=by rw [← en];simpa using hj
  have h0:=hb (ns.getD j 0) (by rw [List.getD_eq_getElem?_getD,List.getElem?_eq_getElem hjn];exact List.getElem_mem hjn);have h1:=sum_rng (ns.take (j+1)) 1000000 (by decide) fun x hx=>hb x (List.mem_of_mem_take hx);have h2:((ns.take (j+1)).length:Int)≤1000:=by rw [List.length_take];omega
  exact ⟨⟨by omega,by omega⟩,⟨by omega,by omega⟩⟩
 ·rw [preSum_eq,en,List.take_of_length_le (by rw [← en];simp)]
end
section
variable {σ:St} {H:Hp} {Q:VK} {K:PySem.W.Frag} {a:Addr} {ns:List Int} {bs:List Bool}
theorem ziH (h:SqL K H a (ns.map V.int)) (hb:∀ x∈ns,0≤x∧x≤1000000) (hz:ns.length≤1000) (q:Q (.int ns.sum) H):cSum K [.ref a] H Q:=⟨a,ns,rfl,h,hb,hz,q⟩
end
end L2
namespace L2
open PySem PySem.Spec PyProof.Rows
section
variable {σ:St} {H:Hp} {Q:VK} {K:PySem.W.Frag} {js:List Nat} {te:TE} {tc:TT} {J:It} {n k:Nat} {x y:Nat→V} {g:TG} {w:Nat→St}
def zfP (J:It) (k:Nat) (js:List Nat) (g:TG) (tc:TT) (te:TE) (σ:St) (H:Hp) (Q:VK):Prop:=∀ p,H p=none →
 ∃ W:Nat→Nat→St→Hp→Prop,(∃ m,W 0 m (capS k js σ) (upd H p (.lst [])))∧∀ i m σc H,W i m σc H →
  (J.stop i H∧Q (.ref p) H)∨(J.go i H∧∃ N:St→Hp→Prop,(∀ σ' H',N σ' H'→∃ m',m' < m∧W (i+1) m' σ' H')∧∀ x H',J.yld i H x H' →
   g x σc H' fun σ2 H2=>tc σ2 H2 fun b H3=>if b=true then te σ2 H3 fun v H4=>∃ ys,H4 p=some (.lst ys)∧ys.length < sizeLine∧N σ2 (upd H4 p (.lst (ys++[v]))) else N σ2 H3)
theorem zds (h:zfP J 1 js (zcj 0) tc te σ H Q):zeA J js tc te σ H Q:=h
structure zcl (J:It) (n k:Nat) (js:List Nat) (σ:St) (g:TG) (w:Nat→St) (H:Hp):Prop where
 len:∀ i,(w i).length=k
 go:∀ i H',Same H H'→i < n→J.go i H'
 stop:∀ H',Same H H'→J.stop n H'
 yld:∀ i H' v H2 (u:St) (N:St→Hp→Prop),Same H H'→i < n→u.length=k→J.yld i H' v H2→(∀ H3,Same H' H3→N (w i++capV js σ) H3)→g v (u++capV js σ) H2 N
theorem zcl.one (it:Iter J n x H):zcl J n 1 js σ (zcj 0) (fun i=>[some (x i)]) H where
 len:=fun _=>rfl
 go:=it.go
 stop:=it.stop
 yld:=fun i H' v H2 u N s hi hu hy q=>by
  obtain ⟨rfl,rfl⟩:=it.yld i H' v H2 s hi hy
  match u,hu with
  | [a],_=>exact q _ (Same.refl _)
theorem zcI (T:zcl J n k js σ g w H) (hz:n≤1000) (c:Nat→Bool) (f:Nat→V)
  (ht:∀ i H' Q',i < n→Same H H'→(∀ H2,Same H' H2→Q' (c i) H2)→tc (w i++capV js σ) H' Q')
  (he:∀ i H' Q',i < n→Same H H'→c i=true→(∀ H2,Same H' H2→Q' (f i) H2)→te (w i++capV js σ) H' Q')
  (hq:∀ p H2,H p=none→Same H H2→H2 p=some (.lst (((List.range n).filter c).map f))→Q (.ref p) H2):zfP J k js g tc te σ H Q:=by
 intro p hp;refine ⟨fun i m σc H'=>m=n-i∧i≤n∧(∃ u:St,u.length=k∧σc=u++capV js σ)∧Same H H'∧H' p=some (.lst (((List.range i).filter c).map f)),⟨n,by simp,Nat.zero_le _,⟨List.replicate k none,List.length_replicate,rfl⟩,zaC hp,zaq⟩,?_⟩;rintro i m σc H' ⟨rfl,hi,⟨u,hu,rfl⟩,s,hpp⟩;have hlen:(((List.range i).filter c).map f).length≤i:=by
  rw [List.length_map];exact Nat.le_trans (List.length_filter_le _ _) (by simp)
 have hsl:n < sizeLine:=zaH hz
 by_cases hlt:i < n
 ·refine .inr ⟨T.go i _ s hlt,fun σ' H'=>(∃ u:St,u.length=k∧σ'=u++capV js σ)∧Same H H'∧H' p=some (.lst (((List.range (i+1)).filter c).map f)),fun σ' H' ⟨h1,h2,h3⟩=>⟨n-(i+1),by omega,rfl,hlt,h1,h2,h3⟩,fun v H2 hy=>?_⟩;have e:(List.range (i+1)).filter c=(List.range i).filter c++if c i=true then [i] else []:=by
   rw [List.range_succ,List.filter_append]
   cases hc:c i <;> simp [hc]
  refine T.yld i H' v H2 u _ s hlt hu hy fun H3 s3=>?_;refine ht i _ _ hlt (s.trans s3) fun H4 s4=>?_;have s34:=s3.trans s4
  cases hc:c i with
  | false =>
    rw [if_neg Bool.false_ne_true];refine ⟨⟨w i,T.len i,rfl⟩,s.trans s34,?_⟩;rw [e,hc];simpa using s34 _ _ hpp
  | true =>
    rw [if_pos rfl];refine he i _ _ hlt (s.trans s34) hc fun H5 s5=>?_;refine ⟨_,s5 _ _ (s34 _ _ hpp),by omega,⟨w i,T.len i,rfl⟩,zgi ((s.trans s34).trans s5) hp,?_⟩;rw [zaq,e,hc];simp
 ·have e:i=n:=by omega
  subst e;exact .inl ⟨T.stop _ s,hq p _ hp s hpp⟩
theorem zhJ (T:zcl J n k js σ g w H) (hz:n≤1000) (f:Nat→List Int)
  (he:∀ i H' Q',i < n→Same H H'→(∀ q H2,H' q=none→Same H' H2→H2 q=some (.lst ((f i).map V.int))→Q' (.ref q) H2)→te (w i++capV js σ) H' Q')
  (hq:∀ p H2,zaP H p ((List.range n).map f) H2→Q (.ref p) H2):zfP J k js g tTT te σ H Q:=by
 intro p hp;refine ⟨fun i m σc H'=>m=n-i∧i≤n∧(∃ u:St,u.length=k∧σc=u++capV js σ)∧zaP H p ((List.range i).map f) H',⟨n,by simp,Nat.zero_le _,⟨List.replicate k none,List.length_replicate,rfl⟩,zaP.start hp (zaC hp) zaq⟩,?_⟩;rintro i m σc H' ⟨rfl,hi,⟨u,hu,rfl⟩,R⟩;have s:=R.same;have hsl:n < sizeLine:=zaH hz
 by_cases hlt:i < n
 ·refine .inr ⟨T.go i _ s hlt,fun σ' H'=>(∃ u:St,u.length=k∧σ'=u++capV js σ)∧zaP H p ((List.range (i+1)).map f) H',fun σ' H' ⟨h1,h2⟩=>⟨n-(i+1),by omega,rfl,hlt,h1,h2⟩,fun v H2 hy=>?_⟩;refine T.yld i H' v H2 u _ s hlt hu hy fun H3 s3=>?_;refine r_tt ?_;rw [if_pos rfl];refine he i _ _ hlt (s.trans s3) fun q H4 f4 s4 e4=>?_;obtain ⟨zs,hzs,hzl⟩:=R.lst;have hzn:zs.length=i:=by rw [hzl];simp
  have hp4:=s4 _ _ (s3 _ _ hzs);refine ⟨zs,hp4,by omega,⟨w i,T.len i,rfl⟩,?_⟩;rw [List.range_succ,List.map_append];exact R.push (s3.free f4) (s3.trans s4) e4 hp4 But.upd zaq
 ·have e:i=n:=by omega
  subst e;exact .inl ⟨T.stop _ s,hq p _ R⟩
end
end L2
namespace L2
open PySem PySem.Spec PyProof.Rows
section
variable {prog:Program} {w:World} {A:Around} {E:Value→Shared→Prop} {s:Shared}
abbrev kwS (v:Value):List (Str×Value):=[(Str.ofString "start",v)]
theorem zgG (a v:Value):checkTypeCall "enumerate" ⟨[a],kwS v⟩=pure ():=by kernel_rfl
theorem zhK (a v:Value):checkBuiltinCall "enumerate.__new__" ⟨[.type "enumerate",a],kwS v⟩=pure ():=by kernel_rfl
theorem zgH (a b v:Value):argsOk "object.__init__" ⟨[a,b],kwS v⟩:=by unfold argsOk;kernel_rfl
theorem zfQ (l:Addr) (items:Array Value) (n:Nat) (dct:Option Addr) (sl:Array (Option Value)) (t:Tok) :
  Meets (Builtin.«enumerate.__new__» ⟨[.type "enumerate",.ref l],kwS (.int 1 t)⟩) (fun _ R s=>s.heap.get? l=some { cls:=.type "list",dict:=dct,data:=.seq items n,slots:=sl } ∧
   R (.ok (.ret (.ref (s.heap.push { cls:=.type "list_iterator",data:=.fields #[.ref l,.int 0 0] }).objs.size)))
    { s with heap:=(s.heap.push { cls:=.type "list_iterator",data:=.fields #[.ref l,.int 0 0] }).push { cls:=.type "enumerate",data:=.fields #[.none,.bool false,.ref s.heap.objs.size,rawInt 1,.none,.none] } }) :=
 .of_wp fun prog w A R s ⟨hl,h⟩=>by
  obtain ⟨hp,g,d,tk,os⟩:=s;have hsub:=sub_enumerate;have hL:Heap.IsList (Shared.heap ⟨hp,g,d,tk,os⟩) l items:=⟨_,hl,rfl,n,rfl⟩
  wp_walk using AutoSeq1.wpAny_loadPart' hl
  refine wpAny_stack_any fun st=>wpAny_pure ?_;split
  ·rename_i c _ _ _ _ _
   cases hcc:(c == Value.type "enumerate")
   ·wp_walk using AutoSeq1.wpAny_loadPart' hl,wpAny_pyIter_list hL
    exact ⟨_,rfl,h⟩
   ·wp_walk using AutoSeq1.wpAny_loadPart' hl,wpAny_pyIter_list hL
    exact ⟨_,rfl,h⟩
  ·wp_walk using AutoSeq1.wpAny_loadPart' hl,wpAny_pyIter_list hL
   exact ⟨_,rfl,h⟩
theorem zfR (self a v:Value):Meets (Builtin.«object.__init__» ⟨[self,a],kwS v⟩) (fun _ R s=>s.TypeIs self "enumerate"∧R (.ok (.ret .none)) s):=by
 refine Meets.of_wp fun prog w A R s hs=>?_;obtain ⟨hT,hq⟩:=hs;have hl:=F.called_enumerate.init.lookup;have hm:=F.called_enumerate.made;have hne:(some "enumerate.__new__" != some "object.__new__")=true:=by decide
 repeat (any_goals (first | (assumption) | wp_step))
 exact ⟨_,rfl,hq⟩
theorem zgI {l:Addr} {items:Array Value} {t:Tok} {Q:Value→Shared→Prop} (hL:s.heap.IsList l items)
  (h:∀ h',IsEnum h' (s.heap.objs.size+1) s.heap.objs.size 1 .none→h'.IsListIter s.heap.objs.size l 0→(∀ b o,s.heap.get? b=some o→h'.get? b=some o)→Q (.ref (s.heap.objs.size+1)) { s with heap:=h' }) :
  wpAny (model prog w) A (call (.type "enumerate") [.ref l] (kwS (.int 1 t))) Q E s:=by
 obtain ⟨⟨c,dct,dt,sl⟩,hl,hc,n,hd⟩:=hL;obtain rfl:c=.type "list":=hc;obtain rfl:dt=.seq items n:=hd;have ft:=F.called_enumerate;obtain ⟨c0,tl,hmro⟩:=ft.mro;have hmade:=ft.made;have hsub:=ft.sub;have hct:=zgG (.ref l) (.int 1 t);refine wpAny_call (codeAny_of_tree ?_);show wpAny _ _ (callAny (.type "enumerate") _) _ _ _;refine wpAny_pure ⟨Code.quiet_builtin _ (by decide +kernel),codeAny_builtin F.entry_type_call ?_⟩;rw [Around.under_plain (weight_type_call_type "enumerate" [.ref l] (kwS (.int 1 t))) (units_type_call_type "enumerate" [.ref l] (kwS (.int 1 t)))];have n1:=ft.notType;have n2:=ft.canCreate
 repeat (any_goals (first | (assumption) | wp_step))
 have hz:(s.heap.push { cls:=.type "list_iterator",data:=.fields #[.ref l,.int 0 0] }).objs.size=s.heap.objs.size+1:=Heap.size_push ..
 let R0:Result→Shared→Prop:=fun r s'=>r=.ok (.ret (.ref (s.heap.objs.size+1)))∧∃ h',s'={ s with heap:=h' }∧IsEnum h' (s.heap.objs.size+1) s.heap.objs.size 1 .none∧h'.IsListIter s.heap.objs.size l 0∧(∀ b o,s.heap.get? b=some o→h'.get? b=some o)
 have key:codeAny (model prog w) A.in1 (Code.call (.builtin "enumerate.__new__") ⟨[.type "enumerate",.ref l],kwS (.int 1 t)⟩) R0 s:=by
  refine codeAny_call_builtin ft.plain F.entry_enumerate_new (wpAny_of_eq (zhK _ _) (zfQ l items n dct sl t prog w A.in1 R0 s ⟨hl,?_⟩));rw [hz];refine ⟨rfl,_,rfl,?_,⟨_,Heap.get?_push_of_some _ (Heap.get?_push_size _ rfl),rfl,rfl⟩,fun b o x=>Heap.get?_push_of_some _ (Heap.get?_push_of_some _ x)⟩;have e:=Heap.get?_push_size (s.heap.push { cls:=.type "list_iterator",data:=.fields #[.ref l,.int 0 0] }) (o:={ cls:=.type "enumerate",data:=.fields #[.none,.bool false,.ref s.heap.objs.size,rawInt 1,.none,.none] }) rfl;rw [hz] at e;exact e
 refine codeAny_mono key fun r s1 hr=>?_;obtain ⟨rfl,h',rfl,a1,a2,a3⟩:=hr;have hT:Shared.TypeIs { s with heap:=h' } (.ref (s.heap.objs.size+1)) "enumerate":=⟨_,a1,rfl⟩
 have hli:=ft.init.lookup;have hbi:=ft.init.bind (.ref (s.heap.objs.size+1))
 repeat (any_goals (first | (assumption) | wp_step))
 let R1:Result→Shared→Prop:=fun r s'=>r=.ok (.ret .none)∧s'={ s with heap:=h' }
 have key2:codeAny (model prog w) A.in1 (Code.call (.builtin "object.__init__") ⟨[.ref (s.heap.objs.size+1),.ref l],kwS (.int 1 t)⟩) R1 { s with heap:=h' } :=
  codeAny_call_builtin ft.init.plain F.entry_object_init (ft.init.check _ _ _ _ _ _ _ _ hT (zgH _ _ _) (zfR _ _ _ prog w A.in1 R1 _ ⟨hT,rfl,rfl⟩))
 refine codeAny_mono key2 fun r s2 hr=>?_;obtain ⟨rfl,rfl⟩:=hr
 repeat (any_goals (first | (assumption) | wp_step))
 exact h _ a1 a2 a3
theorem zgJ {e it l:Addr} {i:Nat} {c:Int} {xs:Array Value} {x old:Value} {Q:Value→Shared→Prop} (he:IsEnum s.heap e it c old) (hit:s.heap.IsListIter it l i) (hl:s.heap.IsList l xs) (hx:xs[i]? = some x) (ne:e≠it)
  (q:∀ k,IsEnumOut k e it (c+1) x s.heap.objs.size→k.IsListIter it l (i+1)→k.get? s.heap.objs.size=some { cls:=.type "tuple",data:=.seq #[.int c s.toks,x] } →
   (∀ b o,b≠e→b≠it→s.heap.get? b=some o→k.get? b=some o)→Q (.ref s.heap.objs.size) { s with heap:=k,toks:=s.toks+1 }) :
  wpAny (model prog w) A (Builtin.«enumerate.__next__» ⟨[.ref e],[]⟩) (fun fin s'=>∃ v,fin=.done (.ret v)∧Q v s') E s:=by
 obtain ⟨g0,ge,dr,tk,os⟩:=s;have elt:e < g0.objs.size:=Heap.lt_size he;show wpAny _ _ (field (.ref e) 2 >>= _) _ _ _;refine wpAny_bind (wpAny_field he rfl (x:=.ref it) rfl (wpAny_bind (wpAny_nextOf_list_item hit hl hx fun g1 i1 b1=>?_)));replace b1:Heap.SameBut it g0 g1:=b1;have e1:IsEnum g1 e it c old:=(b1.2 e ne).trans he;show wpAny _ _ (field (.ref e) 3 >>= _) _ _ ⟨g1,ge,dr,tk,os⟩;refine wpAny_bind (wpAny_field e1 rfl (x:=rawInt c) rfl ?_);show wpAny _ _ (field (.ref e) 4 >>= _) _ _ ⟨g1,ge,dr,tk,os⟩;refine wpAny_bind (wpAny_field e1 rfl (x:=.none) rfl ?_);show wpAny _ _ (mkInt c >>= _) _ _ ⟨g1,ge,dr,tk,os⟩;refine wpAny_bind (wpAny_mkInt ?_);show wpAny _ _ (setField (.ref e) 3 (rawInt (c+1)) >>= _) _ _ ⟨g1,ge,dr,tk+1,os⟩;refine wpAny_bind (wpAny_setField_rec e1 (by simp) fun g2 e2 b2=>?_);replace b2:Heap.SameBut e g1 g2:=b2;replace e2:IsEnum g2 e it (c+1) old:=e2;show wpAny _ _ (setField (.ref e) 4 .none >>= _) _ _ ⟨g2,ge,dr,tk+1,os⟩;refine wpAny_bind (wpAny_setField_rec e2 (by simp) fun g3 e3 b3=>?_);replace b3:Heap.SameBut e g2 g3:=b3;replace e3:IsEnum g3 e it (c+1) old:=e3;show wpAny _ _ (newTuple [.int c tk,x] >>= _) _ _ ⟨g3,ge,dr,tk+1,os⟩;refine wpAny_bind (wpAny_newTuple ?_);have z3:g3.objs.size=g0.objs.size:=by rw [b3.1,b2.1,b1.1]
 have keep3:∀ b o,b≠e→b≠it→g0.get? b=some o→g3.get? b=some o:=fun b o n1 n2 y=>b3.extBut b o n1 (b2.extBut b o n1 (b1.extBut b o n2 y));have i3:g3.IsListIter it l (i+1):=(i1.extBut b2.extBut ne.symm).extBut b3.extBut ne.symm;have e4:IsEnum (g3.push { cls:=.type "tuple",data:=.seq #[.int c tk,x] }) e it (c+1) old:=Heap.get?_push_of_some _ e3;have t4:(g3.push { cls:=.type "tuple",data:=.seq #[.int c tk,x] }).get? g0.objs.size=some { cls:=.type "tuple",data:=.seq #[.int c tk,x] }:=by rw [← z3];exact Heap.get?_push_size _ rfl
 have keep4:∀ b o,b≠e→b≠it→g0.get? b=some o→(g3.push { cls:=.type "tuple",data:=.seq #[.int c tk,x] }).get? b=some o:=fun b o n1 n2 y=>Heap.get?_push_of_some _ (keep3 b o n1 n2 y);have i4:(g3.push { cls:=.type "tuple",data:=.seq #[.int c tk,x] }).IsListIter it l (i+1):=i3.at fun o y=>Heap.get?_push_of_some _ y;rw [z3];generalize g3.push { cls:=.type "tuple",data:=.seq #[.int c tk,x] }=g4 at e4 t4 keep4 i4;show wpAny _ _ (Builtin.SmallTypes.ownedTupleIsFree (.ref e) >>= _) _ _ ⟨g4,ge,dr,tk+1,os⟩;refine wpAny_bind ?_;unfold Builtin.SmallTypes.ownedTupleIsFree;refine wpAny_bind (wpAny_field e4 rfl (x:=.none) rfl (wpAny_pure ?_));simp only [if_true];refine wpAny_bind (wpAny_rule (wpAny_bind (wpAny_field e4 rfl (x:=old) rfl (wpAny_bind (wpAny_setField_rec e4 (by simp) fun g5 e5 b5=>?_)))));replace b5:Heap.SameBut e g4 g5:=b5;replace e5:IsEnum g5 e it (c+1) x:=e5;show wpAny _ _ (Builtin.SmallTypes.ownedTupleHandOut (.ref e) (.ref g0.objs.size) >>= _) _ _ ⟨g5,ge,dr,tk+1,os⟩;refine wpAny_bind ?_;unfold Builtin.SmallTypes.ownedTupleHandOut;refine wpAny_bind (wpAny_setField_rec e5 (by simp) fun g6 e6 b6=>?_);replace b6:Heap.SameBut e g5 g6:=b6;replace e6:IsEnumOut g6 e it (c+1) x g0.objs.size:=e6;refine wpAny_setField_rec e6 (by simp) fun g7 e7 b7=>?_;replace b7:Heap.SameBut e g6 g7:=b7;have far:∀ b o,b≠e→g4.get? b=some o→g7.get? b=some o:=fun b o n1 y=>b7.extBut b o n1 (b6.extBut b o n1 (b5.extBut b o n1 y));exact wpAny_bind (wpAny_letGo (wpAny_pure ⟨_,rfl,q g7 e7 (i4.at fun o y=>far it o ne.symm y) (far _ _ (Nat.ne_of_gt elt) t4) fun b o n1 n2 y=>far b o n1 (keep4 b o n1 n2 y)⟩))
theorem zgK {e it l:Addr} {i:Nat} {c:Int} {xs:Array Value} {x old:Value} {Q:Option Value→Shared→Prop} (he:IsEnum s.heap e it c old) (hit:s.heap.IsListIter it l i) (hl:s.heap.IsList l xs) (hx:xs[i]? = some x) (ne:e≠it)
  (q:∀ k,IsEnumOut k e it (c+1) x s.heap.objs.size→k.IsListIter it l (i+1)→k.get? s.heap.objs.size=some { cls:=.type "tuple",data:=.seq #[.int c s.toks,x] } →
   (∀ b o,b≠e→b≠it→s.heap.get? b=some o→k.get? b=some o)→Q (some (.ref s.heap.objs.size)) { s with heap:=k,toks:=s.toks+1 }) :
  wpAny (model prog w) A (pyNext (.ref e)) Q E s:=by
 have hT:s.TypeIs (.ref e) "enumerate":=⟨_,he,rfl⟩
 unfold pyNext;refine wpAny_bind (wpAny_attempt (wpAny_callSpecial?_slot (name:=Str.ofString "__next__") hT F.slot_enumerate_next (wpAny_call_entry F.slot_enumerate_next hT F.entry_enumerate_next ?_ (F.args_enumerate_next_1 _))));exact zgJ he hit hl hx ne fun k a b d f=>wpAny_pure (q k a b d f)
theorem zhL {e it l:Addr} {i:Nat} {c:Int} {xs:Array Value} {old:Value} {Q:Option Value→Shared→Prop} (hh:A.handled=none) (he:IsEnum s.heap e it c old) (hit:s.heap.IsListIter it l i) (hl:s.heap.IsList l xs) (hx:xs[i]? = none)
  (q:∀ k,Heap.ExtBut it s.heap k→Q none { s with heap:=k }):wpAny (model prog w) A (pyNext (.ref e)) Q E s:=by
 have hT:s.TypeIs (.ref e) "enumerate":=⟨_,he,rfl⟩
 unfold pyNext;refine wpAny_bind (wpAny_attempt (wpAny_callSpecial?_slot (name:=Str.ofString "__next__") hT F.slot_enumerate_next (wpAny_call_entry F.slot_enumerate_next hT F.entry_enumerate_next ?_ (F.args_enumerate_next_1 _))));show wpAny _ _ (field (.ref e) 2 >>= _) _ _ _;refine wpAny_bind (wpAny_field he rfl (x:=.ref it) rfl (wpAny_bind (wpAny_nextOf_list_end hh hit hl hx fun k y hk hy=>?_)));obtain ⟨o,ho,hc⟩:=hy;exact wpAny_bind (wpAny_isInstance (T:="StopIteration") (b:=true) ⟨o,ho,hc⟩ isSubtype_stop (wpAny_pure (q _ hk)))
theorem zeD {M:Model} {env:Env} {pos:Pos} {T:String} {e:Expr} {rest:List Expr} {kws:List Keyword} {Q:Value→Shared→Prop}
  (h:wpAny M A (spliced (backTo pos (starEach (e::rest) env))) (fun vs s1=>wpAny M A (evalAll ((backToKw pos (keywordEach kws env)).map (·.2)))
   (fun ks s2=>wpAny M A (call (.type T) vs (((backToKw pos (keywordEach kws env)).filterMap (·.1)).zip ks)) Q E s2) E s1) E s)
  (he:backTo pos (starEach (e::rest) env)=(false,eval e env)::backTo pos (starEach rest env)) (hp:(backTo pos (starEach (e::rest) env)).any (·.1)=false)
  (ha:(backToKw pos (keywordEach kws env)).all (·.1.isSome)=true) (hk:(backToKw pos (keywordEach kws env)).any (·.1.isNone)=false) :
  wpAny M A (callWith pos (.type T) [] (backTo pos (starEach (e::rest) env)) (backToKw pos (keywordEach kws env))) Q E s:=by
 have h2:wpAny M A (evalArgs (.type T) true (backTo pos (starEach (e::rest) env)) (backToKw pos (keywordEach kws env))) (fun a s1=>wpAny M A (call (.type T) ([]++a.pos) a.kw) Q E s1) E s:=by
  rw [he] at h ⊢;exact evalArgs_kwB ha h
 unfold callWith;refine wpAny_bind (wpAny_holding (wpAny_mono h2 (fun a s1 h1=>wpAny_bind (wpAny_standAt ?_)) fun _ _ z=>z));simp only [hp,hk,Bool.or_false];exact wpAny_bind (wpAny_pure (wpAny_bind (wpAny_mono h1 (fun r s2 hr=>wpAny_bind (wpAny_holding (wpAny_point (wpAny_pure hr)))) fun _ _ z=>z)))
end
def Ite (K:PySem.W.Frag) (a:Addr) (c:Int):It :=
 ⟨fun i H=>∃ xs x,SqL K H a xs∧xs[i]? = some x,
  fun i H v H'=>∃ T,H T=none∧v=.ref T∧∀ xs,SqL K H a xs→∃ x,xs[i]? = some x∧H'=upd H T (.tup [.int (c+i),x]),
  fun i H=>∃ xs,SqL K H a xs∧xs.length≤i⟩
theorem zfd {P:Program} {w:World} {K:PySem.W.Frag} {elts:List Expr} {x1:Nat} {tpos:Pos} {l z I:Addr} {c:Int} (hzI:z≠I) (hlz:l≠z) (hlI:l≠I) :
  Turn P w K (.Tuple elts x1 tpos) (Ite K l c) [z,I] z (fun i h=>(∃ old,IsEnum h z I (c+i) old)∧h.IsListIter I l i) where
 mem:=by simp
 obj:=fun i h st b hb=>by
  obtain ⟨⟨old,h1⟩,o2,h2,c2,d2⟩:=st;simp only [List.mem_cons,List.not_mem_nil,or_false] at hb;rcases hb with rfl | rfl
  ·exact ⟨_,h1,fun v y=>by cases y⟩
  ·exact ⟨_,h2,fun v y=>by rw [d2] at y;cases y⟩
 keep:=fun i h h' st k=>by
  obtain ⟨⟨old,h1⟩,h2⟩:=st;exact ⟨⟨old,k z (by simp) _ h1⟩,h2.at fun o e=>k I (by simp) o e⟩
 item:=by
  intro X hP hw hK hc i pins s σ H E Iv hf st hg;subst hP hw hK;obtain ⟨xs,x,hq,hx⟩:=hg;obtain ⟨its,rv,p1,_⟩:=Iv.list hq;obtain ⟨u,hu,ru⟩:=rv.get hx;obtain ⟨⟨old,g1⟩,g2⟩:=st;have hI:I < s.heap.objs.size:=by obtain ⟨_,y,_⟩:=g2;exact Heap.lt_size y
  have hz:z < s.heap.objs.size:=Heap.lt_size g1;refine zgK g1 g2 p1.isList (x:=u) (by simpa using hu) hzI fun k a1 a2 a3 a4=>⟨_,rfl,?_⟩
  refine wpAny_letOwnedTupleGo_enum a1 fun k2 b1 b2=>?_;replace b2:Heap.SameBut z k k2:=b2;have hTn:H s.heap.objs.size=none:=Iv.hok.fresh (Nat.le_refl _);have keep:∀ b ob,b∉[z,I]→s.heap.get? b=some ob→k2.get? b=some ob:=fun b ob hb e=>by
   simp only [List.mem_cons,List.not_mem_nil,or_false,not_or] at hb;exact b2.extBut b ob hb.1 (a4 b ob hb.1 hb.2 e)
  have ei:c+(i:Int)+1=c+((i+1:Nat):Int):=by rw [Int.natCast_add];omega
  have c2:k2.IsListIter I l (i+1):=a2.extBut b2.extBut hzI.symm;refine ⟨.ref s.heap.objs.size,upd H s.heap.objs.size (.tup [.int (c+i),x]),?_,rfl,⟨_,hTn,rfl,fun xs' q'=>?_⟩,⟨⟨_,by rw [← ei];exact b1⟩,c2⟩,fun b hb=>?_⟩
  ·refine Iv.turnedNew (t':=s.toks+1) (ch:=[z,I]) keep (fun b hb=>⟨hf b hb,?_⟩) (Nat.le_refl _) ?_
   ·simp only [List.mem_cons,List.not_mem_nil,or_false] at hb;rcases hb with rfl | rfl
    ·exact ⟨_,b1⟩
    ·obtain ⟨o,e,_⟩:=c2;exact ⟨_,e⟩
   ·exact ⟨by show 2≤sizeLine;rw [sizeLine_eq];decide,[.int (c+i) s.toks,u],.cons ⟨_,rfl⟩ (.cons ru .nil),_,b2.extBut _ _ (Nat.ne_of_gt hz) a3,rfl,_,rfl⟩
  ·rw [Iv.list_inj q' hq];exact ⟨x,hx,rfl⟩
  ·have:b≠s.heap.objs.size:=by
    simp only [List.mem_cons,List.not_mem_nil,or_false] at hb;rcases hb with rfl | rfl
    ·exact Nat.ne_of_lt hz
    ·exact Nat.ne_of_lt hI
   rw [zaJ this];exact (hf b hb).1
 done:=by
  intro X hP hw hK hc i pins s σ H E Iv hf st hg;subst hP hw hK;obtain ⟨xs,hq,hx⟩:=hg;obtain ⟨its,rv,p1,_⟩:=Iv.list hq;obtain ⟨⟨old,g1⟩,g2⟩:=st;have hl1:=rv.length;refine zhL (Iv.ok.hd hc) g1 g2 p1.isList (Array.getElem?_eq_none (by simp;omega)) fun k hk=>⟨rfl,Iv.turnedL (t':=s.toks) (ch:=[z,I]) (fun b ob hb e=>?_) hf⟩
  simp only [List.mem_cons,List.not_mem_nil,or_false,not_or] at hb;exact hk b ob hb.2 e
 self:=fun _ _ _ _ _ ⟨⟨_,st⟩,_⟩ h=>wpAny_pyIter_enum st h
section
variable {X:Cx} {K:PySem.W.Frag}
def ziI (K:PySem.W.Frag) (c:Int) (ta:TA):TI:=fun σ H R=>ta σ H fun vs H1=>∃ a xs,vs=[.ref a]∧SqL K H1 a xs∧R (Ite K a c) H1
theorem zhM {pins:List (Addr×Obj)} {σ:St} {H:Hp} {s:Shared} {h':Heap} (I:Inv X pins σ H s) (b:Addr) (hb:b∈[s.heap.objs.size+1,s.heap.objs.size]):FpOk X pins H b:=by
 have hge:s.heap.objs.size≤b:=by
  simp only [List.mem_cons,List.not_mem_nil,or_false] at hb;rcases hb with rfl | rfl
  ·exact Nat.le_succ _
  ·exact Nat.le_refl _
 exact I.fpOk hge (I.hok.fresh hge)
theorem ziJ {a:Expr} {ta:TA} {p pos tpos:Pos} {elts:List Expr} {x1:Nat} (hK:X.K=K) (hg:Gl X "enumerate") (hm:X.mg "enumerate" = none) (ha:PA X [a] ta) (hs:starEach [a] X.env=(false,eval a X.env)::starEach [] X.env:=by rfl)
  (hs2:(backTo pos (starEach [] X.env)).any (·.1)=false:=by rfl):PI X (.Tuple elts x1 tpos) (.Call (.Name "enumerate" p) [a] [] pos) (ziI K 0 ta):=by
 subst hK;intro pins s σ H R I h;refine Call_ (zc8 I hg hm boot_enumerate (PyProof.Rows.callWith_type1 (thn (ha pos pins s σ H _ I h) fun us s1 ⟨vs,H1,I1,r1,q1⟩=>?_) hs hs2));obtain ⟨l,xs,e,q1,q⟩:=q1;subst e;obtain ⟨v1,rfl,ru⟩:=r1.one
 cases ru
 obtain ⟨its,rv,p1,_⟩:=I1.list q1;obtain ⟨o1,e1,_⟩:=p1.isList;have L1:=Heap.lt_size e1;refine call_enumerate_list p1.isList fun k a1 a2 _ a4=>?_;refine wpAny_pyIter_enum a1 ?_;have I2:Inv X pins σ H1 { s1 with heap:=k }:=I1.kept (t':=s1.toks) a4;exact ⟨s1.heap.objs.size+1,_,_,Ite X.K l 0,H1,rfl,I2,zfd (Nat.succ_ne_self _) (Nat.ne_of_lt (Nat.lt_succ_of_lt L1)) (Nat.ne_of_lt L1),⟨⟨_,a1⟩,a2⟩,zhM (h':=k) I1,q⟩
theorem zeE {a:Expr} {ta:TA} {p pos tpos kpos cpos:Pos} {ci:Nat} {elts:List Expr} {x1:Nat} (hK:X.K=K) (hg:Gl X "enumerate") (hm:X.mg "enumerate" = none) (ha:PA X [a] ta)
  (hb:bootBuiltins "enumerate" = some (.type "enumerate"):=by rfl)
  (he:backTo pos (starEach [a] X.env)=(false,eval a X.env)::backTo pos (starEach [] X.env):=by rfl) (hpl:(backTo pos (starEach [a] X.env)).any (·.1)=false:=by rfl) :
  PI X (.Tuple elts x1 tpos) (.Call (.Name "enumerate" p) [a] [⟨some "start",.Constant (.int 1) ci cpos,kpos⟩] pos) (ziI K 1 ta):=by
 subst hK;intro pins s σ H R I h;refine wpAny_Call_Name_kw (zc8 I hg hm hb ?_ (by decide) (by decide));refine zeD (thn (ha pos pins s σ H _ I h) fun us s1 ⟨vs,H1,I1,r1,q1⟩=>thn ((zhm zad pk_nil) pos pins s1 σ H1 (fun zs H2=>zs=[.int 1]∧H2=H1) I1 ⟨rfl,rfl⟩) fun ws s2 ⟨zs,H2,I2,r2,q2⟩=>?_) he hpl rfl rfl;obtain ⟨rfl,rfl⟩:=q2;obtain ⟨l,xs,e,q1,q⟩:=q1;subst e;obtain ⟨v1,rfl,ru⟩:=r1.one
 cases ru
 obtain ⟨v2,rfl,tt,rfl⟩:=r2.one;obtain ⟨its,rv,p1,_⟩:=I2.list q1;obtain ⟨o1,e1,_⟩:=p1.isList;have L1:=Heap.lt_size e1;refine zgI p1.isList fun k a1 a2 a4=>?_;refine wpAny_pyIter_enum a1 ?_;have I3:Inv X pins σ H2 { s2 with heap:=k }:=I2.kept (t':=s2.toks) a4;exact ⟨s2.heap.objs.size+1,_,_,Ite X.K l 1,H2,rfl,I3,zfd (Nat.succ_ne_self _) (Nat.ne_of_lt (Nat.lt_succ_of_lt L1)) (Nat.ne_of_lt L1),⟨⟨_,a1⟩,a2⟩,zhM (h':=k) I2,q⟩
end
section
variable {σ:St} {H:Hp} {D:Ends} {nx bk ct:St→Hp→Prop} {rt:VK} {K:PySem.W.Frag} {Q:VK} {js:List Nat} {te:TE} {tc:TT} {c:Int} {a b:Addr} {xs ys:List V}
theorem zk1 {tl:TA} {g:TG} {tb:TS} (h:tl σ H fun vs H1=>∃ a xs,vs=[.ref a]∧SqL K H1 a xs∧ForI (Ite K a c) g tb D σ H1):tFor (ziI K c tl) g tb D σ H:=h
theorem zj3 {tl:TA} {k:Nat} {g:TG} (h:tl σ H fun vs H1=>∃ a xs,vs=[.ref a]∧SqL K H1 a xs∧zfP (Ite K a c) k js g tc te σ H1 Q):zgB (ziI K c tl) k js g tc te σ H Q:=h
theorem zdt {P:Addr→Prop} (h:SqL K H a xs) (q:P a):∃ b xs,[V.ref a]=[.ref b]∧SqL K H b xs∧P b:=⟨a,xs,rfl,h,q⟩
theorem zj4 {i j:Nat} {tb:TS} (Pv:Nat→St→Hp→Prop) (h0:Pv 0 σ H) (hl:∀ i σ H,i≤xs.length→Pv i σ H→SqL K H a xs)
  (hs:∀ k x σ H H' ,xs[k]? = some x→Pv k σ H→Same H H'→tb ⟨Pv (k+1),rt,nx,Pv (k+1)⟩ ((σ.set i (some (.int (c+k)))).set j (some x)) H') (hd:∀ σ H,Pv xs.length σ H→nx σ H) :
  ForI (Ite K a c) (gTup K 2 (zg8 (zcj i) (zg8 (zcj j) gNil))) tb ⟨nx,rt,bk,ct⟩ σ H:=by
 refine ⟨fun i m σ H=>m=xs.length-i∧i≤xs.length∧Pv i σ H,⟨xs.length,by simp,Nat.zero_le _,h0⟩,?_⟩;rintro k m σ H ⟨rfl,hi,p⟩;have q1:=hl k σ H hi p
 by_cases hlt:k < xs.length
 ·refine .inr ⟨⟨xs,xs[k],q1,by simp [hlt]⟩,Pv (k+1),fun σ' H' p'=>⟨xs.length-(k+1),by omega,rfl,hlt,p'⟩,fun v H' yy=>?_⟩;obtain ⟨T,hT,rfl,yy⟩:=yy;obtain ⟨x,hx,rfl⟩:=yy xs q1;exact ⟨T,[.int (c+k),x],rfl,SqT.of zaq,rfl,.int (c+k),[x],rfl,x,[],rfl,rfl,hs k x σ H _ hx p (zaC hT)⟩
 ·have e:k=xs.length:=by omega
  subst e;exact .inl ⟨⟨xs,q1,Nat.le_refl _⟩,hd σ H p⟩
theorem zcl.enum (h:SqL K H a xs):zcl (Ite K a c) xs.length 2 js σ (gTup K 2 (zg8 (zcj 0) (zg8 (zcj 1) gNil))) (fun i=>[some (.int (c+i)),some (xs.getD i .non)]) H where
 len:=fun _=>rfl
 go:=fun i H' s hi=>⟨xs,xs[i],s.seq h,by simp [hi]⟩
 stop:=fun H' s=>⟨xs,s.seq h,Nat.le_refl _⟩
 yld:=fun i H' v H2 u N s hi hu hy q=>by
  obtain ⟨T,hT,rfl,yy⟩:=hy;obtain ⟨x,hx,rfl⟩:=yy xs (s.seq h);have ex:xs.getD i .non=x:=by rw [List.getD_eq_getElem?_getD,hx];rfl
  match u,hu with
  | [u1,u2],_ =>
    refine ⟨T,[.int (c+i),x],rfl,SqT.of zaq,rfl,.int (c+i),[x],rfl,x,[],rfl,rfl,?_⟩;have:=q _ (zaC (o:=.tup [.int (c+i),x]) hT);rw [ex] at this;exact this
end
end L2
namespace Prf
open PySem PySem.Spec PyProof.Rows L2
end Prf
namespace L2
open PySem PySem.Spec PyProof.Rows
section
variable {X:Cx} {K:PySem.W.Frag} {o e value:Expr} {f:Str} {pos pos' tpos:Pos} {ta tv:TE}
theorem zaN (hK:X.K=K) (he:PE X e ta) (hb:attributeBase e f X.env (eval e X.env)=eval e X.env:=by rfl):PE X (.Attribute e f pos) (tFld K ta f):=hK▸zkt he hb
theorem zbK (hK:X.K=K) (ha:PE X o ta) (hv:PE X value tv) (hs:swapsWith value (some (.Attribute o f pos')) pos.line X.env=pure false:=by rfl):PS X (.Assign [.Attribute o f pos'] value pos) (sFld K ta tv f):=hK▸zku ha hv hs
end
section
variable {σ:St} {H:Hp} {Q:VK} {D:Ends} {K:PySem.W.Frag} {ta tv to ti te tb:TE} {f m:Str} {tl:TA} {C a p x:Addr} {nx bk ct:St→Hp→Prop} {rt:VK} {sp:Sp} {E:XK} {fs:List (Str×V)} {dx:Addr} {v:V} {i:Int} {xs:List V} {ns:List Int}
def zhN (K:PySem.W.Frag) (f:Str) (x:V) (H1:Hp) (Q:VK):Prop:=∃ a C dx fs v,x=.ref a∧H1 a=some (.ins C dx fs)∧Cls K C∧zbs K C f∧fs.lookup f=some v∧Q v H1
theorem zlR (h:ta σ H fun x H1=>zhN K f x H1 Q):tFld K ta f σ H Q:=h
theorem ziK (h:H a=some (.ins C dx fs)) (c:Cls K C) (n:zbs K C f) (l:fs.lookup f=some v) (q:Q v H):zhN K f (.ref a) H Q:=⟨a,C,dx,fs,v,rfl,h,c,n,l,q⟩
def zgj (K:PySem.W.Frag) (f:Str) (y x:V) (H2:Hp) (N:Hp→Prop):Prop:=∃ a C dx fs,x=.ref a∧H2 a=some (.ins C dx fs)∧Cls K C∧zbs K C f∧fs.length < 1000∧N (upd H2 a (.ins C dx (putF f y fs)))
theorem zk2 (h:tv σ H fun y H1=>ta σ H1 fun x H2=>zgj K f y x H2 fun H3=>nx σ H3):sFld K ta tv f ⟨nx,rt,bk,ct⟩ σ H:=h
theorem zbb {y:V} {N:Hp→Prop} (h:H a=some (.ins C dx fs)) (c:Cls K C) (n:zbs K C f) (l:fs.length < 1000) (q:∀ H2,But a H H2→H2 a=some (.ins C dx (putF f y fs))→N H2):zgj K f y (.ref a) H N:=⟨a,C,dx,fs,rfl,h,c,n,l,q _ But.upd zaq⟩
def zbw (C:Addr) (m:Str) (sp:Sp) (E:XK) (t:TA) (σ:St) (x:V) (H1:Hp) (Q:VK):Prop:=∃ a dx fs,x=.ref a∧H1 a=some (.ins C dx fs)∧fs.lookup m=none∧t σ H1 fun vs H2=>sp (x::(vs++[])) H2 Q E
theorem zk3 (h:ta σ H fun x H1=>zbw C m sp E tl σ x H1 Q):zjz C m sp [] E ta tl σ H Q:=h
theorem za2 (h:H a=some (.ins C dx fs)) (l:fs.lookup m=none) (q:tl σ H fun vs H2=>sp (.ref a::(vs++[])) H2 Q E):zbw C m sp E tl σ (.ref a) H Q:=⟨a,dx,fs,rfl,h,l,q⟩
def zgk (C:Addr) (sp:Sp) (E:XK) (vs:List V) (H1:Hp) (Q:VK):Prop:=∀ x dx,H1 x=none→H1 dx=none→dx≠x→sp (.ref x::(vs++[])) (upd (upd H1 dx (.own x)) x (.ins C dx [])) (fun v H2=>v=.non∧Q (.ref x) H2) E
theorem zk4 (h:tl σ H fun vs H1=>zgk C sp E vs H1 Q):zkw C sp [] E tl σ H Q:=h
theorem zhO {vs:List V} (h:∀ x dx H2,H x=none→H dx=none→dx≠x→Same H H2→H2 x=some (.ins C dx [])→sp (.ref x::(vs++[])) H2 (fun v H3=>v=.non∧Q (.ref x) H3) E):zgk C sp E vs H Q :=
 fun x dx hx hd ne=>h x dx _ hx hd ne (fun b u z=>by rw [zaJ (zaf z hx),zaJ (zaf z hd)];exact z) zaq
def kvT (ks:List Int):List (Key×V):=ks.map fun k=>(Sum.inl k,.bl true)
theorem zhP (h:∀ p H2,H p=none→Same H H2→H2 p=some (.dK (kvT []))→Q (.ref p) H2):tDNewK σ H Q:=fun p hp=>h p _ hp (zaC hp) zaq
end
end L2
namespace Prf
open PySem PySem.Spec PyProof.Rows L2
def prsB:List Int→List (List Int)
 | []=>[]
 | x::xs=>(xs.map fun y=>[x,y])++prsB xs
theorem ziL {ns:List Int} {i:Nat} (h:i < ns.length):prsB (ns.drop i)=((ns.drop (i+1)).map fun y=>[ns.getD i 0,y])++prsB (ns.drop (i+1)):=by
 rw [List.drop_eq_getElem_cons h,List.getD_eq_getElem?_getD,List.getElem?_eq_getElem h];rfl
theorem prs_len:∀ (ns:List Int),(prsB ns).length≤ns.length * ns.length
 | []=>Nat.le_refl _
 | n::ns=>by
   unfold prsB;rw [List.length_append,List.length_map,List.length_cons,Nat.add_mul,Nat.mul_add];have:=prs_len ns;omega
theorem zdE {hs:List Int} {rs rows:List (List Int)}:zcc hs rs rows=true↔rows.length=hs.length∧(∀ k,k < hs.length→zhH rs (hs.getD k 0) (rows.getD k [])=true)∧∀ k,k < rs.length→(cntB rows ((k:Int)+1):Int)≤(rs.getD k []).getD 1 0:=by
 unfold zcc;simp only [Bool.and_eq_true,decide_eq_true_eq,List.all_eq_true,List.mem_range];have e0:∀ k:Nat,(0:Int)+(k:Int)+1=(k:Int)+1:=fun k=>by omega
 constructor
 ·rintro ⟨⟨h1,h2⟩,h3⟩;exact ⟨h1,h2,fun k hk=>by have:=h3 k hk;rwa [e0] at this⟩
 ·rintro ⟨h1,h2,h3⟩;exact ⟨⟨h1,h2⟩,fun k hk=>by rw [e0];exact h3 k hk⟩
end Prf
namespace L2
open PySem PySem.Spec PyProof.Rows
section
variable {σ:St} {H:Hp} {Q:VK} {K:PySem.W.Frag} {ta tb:TE} {a:Addr} {i:Int} {v:V}
def zgl (x y:V) (H2:Hp) (Q:VK):Prop:=∃ a v,x=.ref a∧DGet H2 a y (some v)∧Q v H2
theorem zk5 (h:ta σ H fun x H1=>tb σ H1 fun y H2=>zgl x y H2 Q):zkC ta tb σ H Q:=h
end
end L2
namespace Prf
open PySem PySem.Spec PyProof.Rows L2
structure ExS where
 hs:List Int
 rs:List (List Int)
 step:Int
 dl:Option (List (List Int)×List (List Int))
def ExS.nm (s:ExS):List (List Int):=(s.dl.map (·.1)).getD []
def ExS.en (s:ExS):List (List Int):=(s.dl.map (·.2)).getD []
def zfS (en:List (List Int)) (k:Nat) (r:Int):Option Int:=((en.filter fun e=>decide (e.getD 0 0=(k:Int)+1) && decide (e.getD 1 0=r)).getLast?).map fun e=>e.getD 2 0
theorem zk6 (k:Nat) (r:Int):zfS [] k r=none:=rfl
def exFs (va vb vs vd vc ve:V):List (Str×V):=[("paper_houses",va),("reader_rows",vb),("widest_step",vs),("is_dealt",vd),("named_readers",vc),("entered_points",ve)]
section
variable {va vb vs vd vc ve v:V}
theorem exFs_mk:putF "entered_points" ve (putF "named_readers" vc (putF "is_dealt" vd (putF "widest_step" vs (putF "reader_rows" vb (putF "paper_houses" va [])))))=exFs va vb vs vd vc ve:=by
 unfold exFs
 repeat (first | rw [if_neg (by decide +kernel)] | simp only [putF])
theorem exFs_a:(exFs va vb vs vd vc ve).lookup ("paper_houses" : Str)=some va:=by rw [← exFs_mk];simp only [zaX];repeat (first | rw [if_pos trivial] | rw [if_pos rfl] | rw [if_neg (by decide +kernel)])
theorem exFs_b:(exFs va vb vs vd vc ve).lookup ("reader_rows" : Str)=some vb:=by rw [← exFs_mk];simp only [zaX];repeat (first | rw [if_pos trivial] | rw [if_pos rfl] | rw [if_neg (by decide +kernel)])
theorem exFs_s:(exFs va vb vs vd vc ve).lookup ("widest_step" : Str)=some vs:=by rw [← exFs_mk];simp only [zaX];repeat (first | rw [if_pos trivial] | rw [if_pos rfl] | rw [if_neg (by decide +kernel)])
theorem exFs_d:(exFs va vb vs vd vc ve).lookup ("is_dealt" : Str)=some vd:=by rw [← exFs_mk];simp only [zaX];repeat (first | rw [if_pos trivial] | rw [if_pos rfl] | rw [if_neg (by decide +kernel)])
theorem exFs_c:(exFs va vb vs vd vc ve).lookup ("named_readers" : Str)=some vc:=by rw [← exFs_mk];simp only [zaX];repeat (first | rw [if_pos trivial] | rw [if_pos rfl] | rw [if_neg (by decide +kernel)])
theorem exFs_e:(exFs va vb vs vd vc ve).lookup ("entered_points" : Str)=some ve:=by rw [← exFs_mk];simp only [zaX];repeat (first | rw [if_pos trivial] | rw [if_pos rfl] | rw [if_neg (by decide +kernel)])
theorem exFs_ps:putF "widest_step" v (exFs va vb vs vd vc ve)=exFs va vb v vd vc ve:=by
 unfold exFs;simp only [putF];repeat (first | rw [if_pos trivial] | rw [if_pos rfl] | rw [if_neg (by decide +kernel)])
theorem exFs_pd:putF "is_dealt" v (exFs va vb vs vd vc ve)=exFs va vb vs v vc ve:=by
 unfold exFs;simp only [putF];repeat (first | rw [if_pos trivial] | rw [if_pos rfl] | rw [if_neg (by decide +kernel)])
theorem exFs_pc:putF "named_readers" v (exFs va vb vs vd vc ve)=exFs va vb vs vd v ve:=by
 unfold exFs;simp only [putF];repeat (first | rw [if_pos trivial] | rw [if_pos rfl] | rw [if_neg (by decide +kernel)])
theorem exFs_pe:putF "entered_points" v (exFs va vb vs vd vc ve)=exFs va vb vs vd vc v:=by
 unfold exFs;simp only [putF];repeat (first | rw [if_pos trivial] | rw [if_pos rfl] | rw [if_neg (by decide +kernel)])
end
def exFields:List Str:=["paper_houses","reader_rows","widest_step","is_dealt","named_readers","entered_points"]
theorem zj5 {va vb vs vd vc ve:V} {m:Str} (h:m∉exFields):(exFs va vb vs vd vc ve).lookup m=none:=by
 have hn:∀ f∈exFields,¬m=f:=fun f hf z=>h (z▸hf);rw [← exFs_mk];simp only [zaX];rw [if_neg (hn _ (by decide +kernel)),if_neg (hn _ (by decide +kernel)),if_neg (hn _ (by decide +kernel)),if_neg (hn _ (by decide +kernel)),if_neg (hn _ (by decide +kernel)),if_neg (hn _ (by decide +kernel))];rfl
def zhQ (n:Nat) (en:List (List Int)) (k:Nat) (row:List Int):Prop:=∃ f s:Int,1≤f∧f < s∧s≤n∧(row=[f,s]∨∃ t:Int,row=[f,s,t]∧1≤t∧t≤n∧t≠f∧t≠s∧(zfS en k f).isSome=true∧(zfS en k s).isSome=true)
structure Wf (st:ExS):Prop where
 ln:st.dl.isSome=true→st.nm.length=st.hs.length
 row:∀ k,k < st.nm.length→zhQ st.rs.length st.en k (st.nm.getD k [])
 pts:∀ k r p,zfS st.en k r=some p→0≤p∧p≤100
 stp:0≤st.step∧st.step≤100
structure ExAd where
 x:Addr
 dx:Addr
 a:Addr
 b:Addr
 c:Addr
 d:Addr
 ps:List Addr
 qs:List Addr
 ds:List Addr
def ExAd.own (e:ExAd):List Addr:=e.x::e.a::e.b::e.c::e.d::(e.ps++(e.qs++e.ds))
structure ExIn (C:Addr) (H:Hp) (e:ExAd) (st:ExS) (kvs:List (List (Key×V))):Prop where
 ob:H e.x=some (.ins C e.dx (exFs (.ref e.a) (.ref e.b) (.int st.step) (.bl st.dl.isSome) (.ref e.c) (.ref e.d)))
 ha:H e.a=some (.lst (st.hs.map V.int))
 hb:H e.b=some (.lst (e.ps.map V.ref))
 hc:H e.c=some (.lst (e.qs.map V.ref))
 hd:H e.d=some (.lst (e.ds.map V.ref))
 lp:e.ps.length=st.rs.length
 lq:e.qs.length=st.nm.length
 ld:e.ds.length=st.nm.length
 rp:∀ i,i < st.rs.length→H (e.ps.getD i 0)=some (.lst ((st.rs.getD i []).map V.int))
 rq:∀ i,i < st.nm.length→H (e.qs.getD i 0)=some (.lst ((st.nm.getD i []).map V.int))
 rd:∀ i,i < st.nm.length→H (e.ds.getD i 0)=some (.dK (kvs.getD i []))
 vk:∀ i,i < st.nm.length→∀ r:Int,valV (kvs.getD i []) (Sum.inl r:Key)=(zfS st.en i r).map V.int
 sk:∀ i,i < st.nm.length→(kvs.getD i []).length≤st.en.length
 lk:kvs.length=st.nm.length
 nd:e.own.Nodup
 wf:Wf st
def ExAt (C:Addr) (H:Hp) (x:Addr) (F:Addr→Prop) (st:ExS):Prop:=∃ e kvs,e.x=x∧(∀ b,F b↔b∈e.own)∧ExIn C H e st kvs
theorem zfT {ps:List Addr} {i:Nat} (h:i < ps.length):ps.getD i 0∈ps:=by
 rw [List.getD_eq_getElem?_getD,List.getElem?_eq_getElem h];exact List.getElem_mem h
section
variable {C x:Addr} {H H':Hp} {e:ExAd} {st:ExS} {kvs:List (List (Key×V))} {F:Addr→Prop}
theorem own_x:e.x∈e.own:=List.mem_cons_self
theorem own_a:e.a∈e.own:=List.mem_cons_of_mem _ List.mem_cons_self
theorem own_b:e.b∈e.own:=List.mem_cons_of_mem _ (List.mem_cons_of_mem _ List.mem_cons_self)
theorem own_c:e.c∈e.own:=List.mem_cons_of_mem _ (List.mem_cons_of_mem _ (List.mem_cons_of_mem _ List.mem_cons_self))
theorem own_d:e.d∈e.own:=List.mem_cons_of_mem _ (List.mem_cons_of_mem _ (List.mem_cons_of_mem _ (List.mem_cons_of_mem _ List.mem_cons_self)))
theorem zj6 {b:Addr} (h:b∈e.ps++(e.qs++e.ds)):b∈e.own:=List.mem_cons_of_mem _ (List.mem_cons_of_mem _ (List.mem_cons_of_mem _ (List.mem_cons_of_mem _ (List.mem_cons_of_mem _ h))))
theorem ziM {b:Addr} (h:b∈e.ps):b∈e.own:=zj6 (List.mem_append_left _ h)
theorem zj7 {b:Addr} (h:b∈e.qs):b∈e.own:=zj6 (List.mem_append_right _ (List.mem_append_left _ h))
theorem zhR {b:Addr} (h:b∈e.ds):b∈e.own:=zj6 (List.mem_append_right _ (List.mem_append_right _ h))
theorem ExIn.keep (E:ExIn C H e st kvs) (k:∀ b o,b∈e.own→H b=some o→H' b=some o):ExIn C H' e st kvs :=
 ⟨k _ _ own_x E.ob,k _ _ own_a E.ha,k _ _ own_b E.hb,k _ _ own_c E.hc,k _ _ own_d E.hd,E.lp,E.lq,E.ld,fun i hi=>k _ _ (ziM (zfT (by rw [E.lp];exact hi))) (E.rp i hi),fun i hi=>k _ _ (zj7 (zfT (by rw [E.lq];exact hi))) (E.rq i hi),fun i hi=>k _ _ (zhR (zfT (by rw [E.ld];exact hi))) (E.rd i hi),E.vk,E.sk,E.lk,E.nd,E.wf⟩
theorem ExIn.mem (E:ExIn C H e st kvs) {b:Addr} (h:b∈e.own):∃ o,H b=some o:=by
 unfold ExAd.own at h;simp only [List.mem_cons,List.mem_append] at h;rcases h with h | h | h | h | h | h | h | h
 ·exact ⟨_,h▸E.ob⟩
 ·exact ⟨_,h▸E.ha⟩
 ·exact ⟨_,h▸E.hb⟩
 ·exact ⟨_,h▸E.hc⟩
 ·exact ⟨_,h▸E.hd⟩
 ·obtain ⟨i,hi,ei⟩:=L2.mem_getD (d:=0) h;exact ⟨_,ei▸E.rp i (by have:=E.lp;omega)⟩
 ·obtain ⟨i,hi,ei⟩:=L2.mem_getD (d:=0) h;exact ⟨_,ei▸E.rq i (by have:=E.lq;omega)⟩
 ·obtain ⟨i,hi,ei⟩:=L2.mem_getD (d:=0) h;exact ⟨_,ei▸E.rd i (by have:=E.ld;omega)⟩
theorem ExAt.keep (E:ExAt C H x F st) (k:∀ b o,F b→H b=some o→H' b=some o):ExAt C H' x F st:=by
 obtain ⟨e,kvs,hx,hF,I⟩:=E;exact ⟨e,kvs,hx,hF,I.keep fun b o hb eb=>k b o ((hF b).mpr hb) eb⟩
theorem ExAt.mem (E:ExAt C H x F st) {b:Addr} (h:F b):∃ o,H b=some o:=by
 obtain ⟨e,kvs,hx,hF,I⟩:=E;exact I.mem ((hF b).mp h)
def exMeths:List Str:=["bring_paper","bring_reader","set_step","deal","enter","papers","readers","step","dealt","dealing","against","due","marks","left","refuse_behind_dealing","refuse_ahead_of_dealing","refuse_not_due","due_readers","points_for","mark_for","name_third","needs_third"]
theorem zgL {m:Str} (h:m∈exMeths):m∉exFields:=by
 revert m
 have:exMeths.all (fun m=>!exFields.contains m)=true:=by decide +kernel
 intro m h z;have:=List.all_eq_true.mp this m h;simp only [Bool.not_eq_true',← Bool.not_eq_true,List.contains_iff_mem] at this;exact this z
theorem ExAt.ob (E:ExAt C H x F st):∃ dx fs,H x=some (.ins C dx fs)∧∀ m∈exMeths,fs.lookup m=none:=by
 obtain ⟨e,kvs,rfl,hF,I⟩:=E;exact ⟨_,_,I.ob,fun m hm=>zj5 (zgL hm)⟩
end
structure ExFr (H H':Hp) (F F':Addr→Prop):Prop where
 kp:∀ b o,H b=some o→¬F b→H' b=some o
 fp:∀ b,F' b→F b∨H b=none
section
variable {C x:Addr} {H H':Hp} {e:ExAd} {st:ExS} {kvs:List (List (Key×V))} {F F':Addr→Prop}
theorem ExFr.but {p:Addr} (b:But p H H') (hp:F p) (fp:∀ b,F' b→F b∨H b=none):ExFr H H' F F':=⟨fun c o e n=>by rw [b c (fun z=>n (z▸hp))];exact e,fp⟩
theorem ExAt.same (E:ExAt C H x F st) (s:Same H H'):ExAt C H' x F st:=E.keep fun b o _ e=>s b o e
theorem ExAt.new (E:ExAt C H x F st) {b:Addr} (h:H b=none):¬F b:=fun z=>by obtain ⟨o,e⟩:=E.mem z;rw [h] at e;cases e
theorem ExIn.new (E:ExIn C H e st kvs) {b:Addr} (h:H b=none):b∉e.own:=fun z=>by obtain ⟨o,e⟩:=E.mem z;rw [h] at e;cases e
end
theorem InB.addP {hs:List Int} {rs:List (List Int)} (B:InB hs rs) {h:Int} (hl:hs.length < 10) (h1:1≤h∧h≤6):InB (hs++[h]) rs:=by
 refine ⟨by rw [List.length_append,List.length_singleton];omega,B.lr,fun i hi=>?_,B.r2,B.rh,B.rl⟩;rw [List.length_append,List.length_singleton] at hi
 by_cases e:i < hs.length
 ·rw [zay e];exact B.hh i e
 ·have:i=hs.length:=by omega
  subst this;rw [zas];exact h1
end Prf
namespace L2
open PySem PySem.Spec PyProof.Rows
section
variable {σ:St} {H:Hp} {Q:VK} {K:PySem.W.Frag} {js:List Nat} {te:TE} {J:It} {n k:Nat} {g:TG} {w:Nat→St} {x:Nat→V}
theorem ziN (T:zcl J n k js σ g w H) (hz:n≤1000) (R:Addr→Nat→V→Hp→Prop) (S:List V→V→Prop)
  (st:∀ p i v H1 H2,R p i v H1→(∀ b o,H1 b=some o→b≠p→H2 b=some o)→R p i v H2)
  (he:∀ p ys i H' Q',i < n→H p=none→Same H H'→H' p=some (.lst ys)→ys.length=i→(∀ j,j < i→R p j (ys.getD j .non) H')→(∀ v H2,Same H' H2→R p i v H2→S ys v→Q' v H2)→te (w i++capV js σ) H' Q')
  (hq:∀ p vs H2,H p=none→Same H H2→H2 p=some (.lst vs)→vs.length=n→(∀ i,i < n→R p i (vs.getD i .non) H2)→(∀ i,i < n→S (vs.take i) (vs.getD i .non))→Q (.ref p) H2):zfP J k js g tTT te σ H Q:=by
 intro p hp;refine ⟨fun i m σc H'=>m=n-i∧i≤n∧(∃ u:St,u.length=k∧σc=u++capV js σ)∧Same H H'∧∃ vs:List V,vs.length=i∧H' p=some (.lst vs)∧(∀ j,j < i→R p j (vs.getD j .non) H')∧∀ j,j < i→S (vs.take j) (vs.getD j .non),⟨n,by simp,Nat.zero_le _,⟨List.replicate k none,List.length_replicate,rfl⟩,zaC hp,[],rfl,zaq,fun j hj=>absurd hj (by omega),fun j hj=>absurd hj (by omega)⟩,?_⟩;rintro i m σc H' ⟨rfl,hi,⟨u,hu,rfl⟩,s,vs,hvl,hpp,hR,hS⟩;have hsl:n < sizeLine:=zaH hz
 by_cases hlt:i < n
 ·refine .inr ⟨T.go i _ s hlt,fun σ' H'=>(∃ u:St,u.length=k∧σ'=u++capV js σ)∧Same H H'∧∃ vs:List V,vs.length=i+1∧H' p=some (.lst vs)∧(∀ j,j < i+1→R p j (vs.getD j .non) H')∧∀ j,j < i+1→S (vs.take j) (vs.getD j .non),fun σ' H' ⟨h1,h2,h3⟩=>⟨n-(i+1),by omega,rfl,hlt,h1,h2,h3⟩,fun v H2 hy=>?_⟩;refine T.yld i H' v H2 u _ s hlt hu hy fun H3 s3=>?_;refine r_tt ?_;rw [if_pos rfl];have hpp3:=s3 _ _ hpp;refine he p vs i _ _ hlt hp (s.trans s3) hpp3 hvl (fun j hj=>st p j _ _ _ (hR j hj) fun b o e _=>s3 b o e) fun v H5 s5 hv sv=>?_;refine ⟨vs,s5 _ _ hpp3,by omega,⟨w i,T.len i,rfl⟩,zgi ((s.trans s3).trans s5) hp,vs++[v],by rw [List.length_append,hvl];rfl,zaq,fun j hj=>?_,fun j hj=>?_⟩
  ·by_cases hji:j < i
   ·rw [zay (by omega)];exact st p j _ _ _ (hR j hji) fun b o e nb=>by rw [zaJ nb];exact s5 _ _ (s3 _ _ e)
   ·have e0:j=vs.length:=by omega
    subst e0;rw [zas];exact st p _ _ _ _ (hvl▸hv) fun b o e nb=>by rw [zaJ nb];exact e
  ·by_cases hji:j < i
   ·rw [zay (by omega),List.take_append_of_le_length (by omega)];exact hS j hji
   ·have e0:j=vs.length:=by omega
    subst e0;rw [zas,List.take_append_of_le_length (Nat.le_refl _),List.take_length];exact sv
 ·have e:i=n:=by omega
  subst e;exact .inl ⟨T.stop _ s,hq p vs _ hp s hpp hvl hR hS⟩
theorem zfe {xs:List Int} {i:Nat} (h:i < xs.length):(xs.map V.int).getD i .non=.int (xs.getD i 0):=by
 rw [List.getD_eq_getElem?_getD,List.getElem?_map,List.getElem?_eq_getElem h,List.getD_eq_getElem?_getD,List.getElem?_eq_getElem h];rfl
theorem zbt {f:Str} {v:V}:∀ {fs:List (Str×V)} {n:Nat},fs.length < n→(putF f v fs).length < n+1
 | [],n,h=>by show 1 < n+1;have:0 < n:=h;omega
 | (g,x)::r,n,h=>by
  show (if g=f then (g,v)::r else (g,x)::putF f v r).length < n+1;have h':r.length+1 < n:=h;split
  ·show r.length+1 < n+1;omega
  ·show (putF f v r).length+1 < n+1;have:=zbt (f:=f) (v:=v) (fs:=r) (n:=n-1) (by omega);omega
theorem za4 {α:Type} (xs:List α) (d:α):(List.range xs.length).map (fun i=>xs.getD i d)=xs:=by
 refine List.ext_getElem (by simp) fun i h1 h2=>?_;simp at h1 ⊢;rw [List.getElem?_eq_getElem h1];rfl
theorem zgM (T:zcl J n k js σ g w H) (hz:n≤1000) (he:te=tDNewK)
  (hq:∀ p (ds:List Addr) H2,H p=none→Same H H2→H2 p=some (.lst (ds.map V.ref))→ds.length=n→ds.Nodup→(∀ i,i < n→H2 (ds.getD i 0)=some (.dK [])∧H (ds.getD i 0)=none∧ds.getD i 0≠p)→Q (.ref p) H2):zfP J k js g tTT te σ H Q:=by
 subst he;refine ziN T hz (fun p i v H2=>∃ q,v=.ref q∧H2 q=some (.dK [])∧H q=none∧q≠p) (fun ys v=>v∉ys) ?_ ?_ ?_
 ·rintro p i v H1 H2 ⟨q,rfl,h1,h2,h3⟩ k;exact ⟨q,rfl,k _ _ h1 h3,h2,h3⟩
 ·intro p ys i H' Q' hi hp s hpp hl hR q;refine zhP fun d H2 hd s2 e2=>q _ _ s2 ⟨d,rfl,e2,s.free hd,(zaf hpp hd).symm⟩ fun hm=>?_;obtain ⟨j,hj,ej⟩:=L2.mem_getD (d:=V.non) hm;obtain ⟨q',e1,e3,_⟩:=hR j (by omega);rw [ej] at e1;have:d=q':=by injection e1
  rw [← this,hd] at e3
  cases e3
 ·intro p vs H2 hp s hpp hl hR hS;have:∃ ds:List Addr,vs=ds.map V.ref:=by
   refine ⟨vs.map fun v=>match v with | .ref a=>a | _=>0,?_⟩;rw [List.map_map];refine (List.map_id _).symm.trans (List.map_congr_left fun v hv=>?_);obtain ⟨j,hj,ej⟩:=L2.mem_getD (d:=V.non) hv;obtain ⟨q',e1,_⟩:=hR j (by omega);rw [ej] at e1;subst e1;rfl
  obtain ⟨ds,rfl⟩:=this;rw [List.length_map] at hl;have ed:∀ i,i < n→(ds.map V.ref).getD i .non=.ref (ds.getD i 0):=fun i hi=>by
   rw [List.getD_eq_getElem?_getD,List.getElem?_map,List.getElem?_eq_getElem (by omega),List.getD_eq_getElem?_getD,List.getElem?_eq_getElem (by omega)];rfl
  refine hq p ds H2 hp s hpp hl ?_ fun i hi=>?_
  ·refine List.pairwise_iff_getElem.mpr fun i j hi hj hlt e=>?_;have:=hS j (by omega);rw [ed j (by omega)] at this;refine this ?_;rw [← List.map_take];refine List.mem_map.mpr ⟨ds[i],?_,?_⟩
   ·exact List.mem_iff_getElem.mpr ⟨i,by rw [List.length_take];omega,by rw [List.getElem_take]⟩
   ·rw [List.getD_eq_getElem?_getD,List.getElem?_eq_getElem hj,e];rfl
  ·obtain ⟨q',e1,e2,e3,e4⟩:=hR i hi;rw [ed i hi] at e1;have:ds.getD i 0=q':=by injection e1
   rw [this];exact ⟨e2,e3,e4⟩
end
end L2
namespace Prf
open PySem PySem.Spec PyProof.Rows L2
section
variable {C x:Addr} {H H' H1 H2 H3:Hp} {e:ExAd} {st:ExS} {kvs:List (List (Key×V))} {F F':Addr→Prop}
structure ExNd (e:ExAd):Prop where
 xa:e.x≠e.a
 xb:e.x≠e.b
 xc:e.x≠e.c
 xd:e.x≠e.d
 xp:e.x∉e.ps
 xq:e.x∉e.qs
 xs:e.x∉e.ds
 ab:e.a≠e.b
 ac:e.a≠e.c
 ad:e.a≠e.d
 ap:e.a∉e.ps
 aq:e.a∉e.qs
 as:e.a∉e.ds
 bc:e.b≠e.c
 bd:e.b≠e.d
 bp:e.b∉e.ps
 bq:e.b∉e.qs
 bs:e.b∉e.ds
 cd:e.c≠e.d
 cp:e.c∉e.ps
 cq:e.c∉e.qs
 cs:e.c∉e.ds
 dp:e.d∉e.ps
 dq:e.d∉e.qs
 ds:e.d∉e.ds
 np:e.ps.Nodup
 nq:e.qs.Nodup
 nds:e.ds.Nodup
 pq:∀ b,b∈e.ps→b∉e.qs
 pds:∀ b,b∈e.ps→b∉e.ds
 qds:∀ b,b∈e.qs→b∉e.ds
theorem nd_iff:e.own.Nodup↔ExNd e:=by
 unfold ExAd.own;simp only [List.nodup_cons,List.mem_cons,List.mem_append,List.nodup_append,not_or];constructor
 ·rintro ⟨⟨xa,xb,xc,xd,xp,xq,xs⟩,⟨ab,ac,ad,ap,aq,as⟩,⟨bc,bd,bp,bq,bs⟩,⟨cd,cp,cq,cs⟩,⟨dp,dq,ds⟩,np,⟨nq,nds,qd⟩,pqd⟩;exact ⟨xa,xb,xc,xd,xp,xq,xs,ab,ac,ad,ap,aq,as,bc,bd,bp,bq,bs,cd,cp,cq,cs,dp,dq,ds,np,nq,nds,fun b h h'=>pqd b h b (.inl h') rfl,fun b h h'=>pqd b h b (.inr h') rfl,fun b h h'=>qd b h b h' rfl⟩
 ·intro N;exact ⟨⟨N.xa,N.xb,N.xc,N.xd,N.xp,N.xq,N.xs⟩,⟨N.ab,N.ac,N.ad,N.ap,N.aq,N.as⟩,⟨N.bc,N.bd,N.bp,N.bq,N.bs⟩,⟨N.cd,N.cp,N.cq,N.cs⟩,⟨N.dp,N.dq,N.ds⟩,N.np,⟨N.nq,N.nds,fun a h b h' z=>N.qds a h (z▸h')⟩,fun a h b h' z=>h'.elim (fun h'=>N.pq a h (z▸h')) fun h'=>N.pds a h (z▸h')⟩
theorem zhQ.mono {n n' k:Nat} {en en':List (List Int)} {row:List Int} (h:zhQ n en k row) (hn:n≤n') (he:∀ r,(zfS en k r).isSome=true→(zfS en' k r).isSome=true):zhQ n' en' k row:=by
 obtain ⟨f,s,h1,h2,h3,h4⟩:=h;refine ⟨f,s,h1,h2,by omega,?_⟩;rcases h4 with h4 | ⟨t,h4,t1,t2,t3,t4,t5,t6⟩
 ·exact .inl h4
 ·exact .inr ⟨t,h4,t1,by omega,t3,t4,he _ t5,he _ t6⟩
theorem Wf.ofStep {st:ExS} (w:Wf st) {s:Int} (h:0≤s∧s≤100):Wf { st with step:=s }:=⟨w.ln,w.row,w.pts,h⟩
theorem zj8 {st:ExS} (h:st.dl=none):st.nm=[]:=by unfold ExS.nm;rw [h];rfl
theorem Wf.ofPaper {st:ExS} (w:Wf st) (hd:st.dl=none) {h:Int}:Wf { st with hs:=st.hs++[h] }:=⟨fun z=>(by rw [show ({ st with hs:=st.hs++[h] }:ExS).dl=st.dl from rfl,hd] at z;cases z),w.row,w.pts,w.stp⟩
theorem Wf.ofReader {st:ExS} (w:Wf st) {r:List Int}:Wf { st with rs:=st.rs++[r] }:=⟨w.ln,fun k hk=>(w.row k hk).mono (by show _≤(st.rs++[r]).length;rw [List.length_append];omega) fun _ z=>z,w.pts,w.stp⟩
theorem Wf.ofDeal {st:ExS} (w:Wf st) {rows:List (List Int)} (h:zcc st.hs st.rs rows=true):Wf { st with dl:=some (rows,[]) }:=by
 obtain ⟨h1,h2,h3⟩:=zdE.mp h;refine ⟨fun _=>h1,fun k hk=>?_,fun k r p z=>(by cases z),w.stp⟩;have hk':k < rows.length:=hk;have hp:=h2 k (by omega);show zhQ st.rs.length [] k (rows.getD k []);unfold zhH at hp;simp only [Bool.and_eq_true,decide_eq_true_eq,List.all_eq_true] at hp;obtain ⟨⟨l2,ha⟩,hlt⟩:=hp
 match hr:rows.getD k [],l2 with
 | [f,s],_ =>
   rw [hr] at ha hlt;have hf:=ha f (by simp);have hs:=ha s (by simp);have hlt':f < s:=hlt;exact ⟨f,s,by omega,hlt',by omega,.inl rfl⟩
theorem ExIn.N (E:ExIn C H e st kvs):ExNd e:=nd_iff.mp E.nd
theorem ExIn.at (E:ExIn C H e st kvs):ExAt C H e.x (fun b=>b∈e.own) st:=⟨e,kvs,rfl,fun _=>Iff.rfl,E⟩
theorem zbc {b p:Addr} {l:List Addr} (h:p∉l) (hb:b∈l):b≠p:=fun z=>h (z▸hb)
theorem ExIn.ip (E:ExIn C H e st kvs) {i:Nat} (hi:i < st.rs.length):e.ps.getD i 0∈e.ps:=zfT (by have:=E.lp;omega)
theorem ExIn.iq (E:ExIn C H e st kvs) {i:Nat} (hi:i < st.nm.length):e.qs.getD i 0∈e.qs:=zfT (by have:=E.lq;omega)
theorem ExIn.is (E:ExIn C H e st kvs) {i:Nat} (hi:i < st.nm.length):e.ds.getD i 0∈e.ds:=zfT (by have:=E.ld;omega)
theorem ExIn.setStep (E:ExIn C H e st kvs) {s:Int} (b:But e.x H H') (h:H' e.x=some (.ins C e.dx (putF "widest_step" (.int s) (exFs (.ref e.a) (.ref e.b) (.int st.step) (.bl st.dl.isSome) (.ref e.c) (.ref e.d))))) (wf:0≤s∧s≤100):ExIn C H' e { st with step:=s } kvs:=by
 have N:=E.N;rw [exFs_ps] at h;exact ⟨h,by rw [b _ N.xa.symm];exact E.ha,by rw [b _ N.xb.symm];exact E.hb,by rw [b _ N.xc.symm];exact E.hc,by rw [b _ N.xd.symm];exact E.hd,E.lp,E.lq,E.ld,fun i hi=>by rw [b _ (zbc N.xp (E.ip hi))];exact E.rp i hi,fun i hi=>by rw [b _ (zbc N.xq (E.iq hi))];exact E.rq i hi,fun i hi=>by rw [b _ (zbc N.xs (E.is hi))];exact E.rd i hi,E.vk,E.sk,E.lk,E.nd,E.wf.ofStep wf⟩
theorem ExIn.paper (E:ExIn C H e st kvs) (hd:st.dl=none) {h:Int} (b:But e.a H H') (h1:H' e.a=some (.lst (st.hs.map V.int++[.int h]))):ExIn C H' e { st with hs:=st.hs++[h] } kvs:=by
 have N:=E.N;exact ⟨by rw [b _ N.xa];exact E.ob,by rw [h1,List.map_append];rfl,by rw [b _ N.ab.symm];exact E.hb,by rw [b _ N.ac.symm];exact E.hc,by rw [b _ N.ad.symm];exact E.hd,E.lp,E.lq,E.ld,fun i hi=>by rw [b _ (zbc N.ap (E.ip hi))];exact E.rp i hi,fun i hi=>by rw [b _ (zbc N.aq (E.iq hi))];exact E.rq i hi,fun i hi=>by rw [b _ (zbc N.as (E.is hi))];exact E.rd i hi,E.vk,E.sk,E.lk,E.nd,E.wf.ofPaper hd⟩
theorem ExIn.reader (E:ExIn C H e st kvs) {row:List Int} {r:Addr} (hr:r∉e.own) (er:H r=some (.lst (row.map V.int))) (b:But e.b H H') (h1:H' e.b=some (.lst (e.ps.map V.ref++[.ref r]))):ExIn C H' { e with ps:=e.ps++[r] } { st with rs:=st.rs++[row] } kvs:=by
 have N:=E.N;have lp:=E.lp;have nrb:r≠e.b:=fun z=>hr (z▸own_b);refine ⟨by rw [b _ N.xb];exact E.ob,by rw [b _ N.ab];exact E.ha,by rw [h1,List.map_append];rfl,by rw [b _ N.bc.symm];exact E.hc,by rw [b _ N.bd.symm];exact E.hd,by show (e.ps++[r]).length=(st.rs++[row]).length;rw [List.length_append,List.length_append,lp];rfl,E.lq,E.ld,fun i hi=>?_,fun i hi=>by rw [b _ (zbc N.bq (E.iq hi))];exact E.rq i hi,fun i hi=>by rw [b _ (zbc N.bs (E.is hi))];exact E.rd i hi,E.vk,E.sk,E.lk,?_,E.wf.ofReader⟩
 ·have hi':i < (st.rs++[row]).length:=hi;rw [List.length_append,List.length_singleton] at hi';show H' ((e.ps++[r]).getD i 0)=some (.lst (((st.rs++[row]).getD i []).map V.int))
  by_cases z:i < st.rs.length
  ·rw [zay (by omega),zay z,b _ (zbc N.bp (E.ip z))];exact E.rp i z
  ·have z':i=st.rs.length:=by omega
   subst z';rw [zas,← lp,zas,b _ nrb];exact er
 ·refine nd_iff.mpr ⟨N.xa,N.xb,N.xc,N.xd,?_,N.xq,N.xs,N.ab,N.ac,N.ad,?_,N.aq,N.as,N.bc,N.bd,?_,N.bq,N.bs,N.cd,?_,N.cq,N.cs,?_,N.dq,N.ds,?_,N.nq,N.nds,?_,?_,N.qds⟩
  ·exact fun h=>(List.mem_append.mp h).elim N.xp fun h=>hr (List.mem_singleton.mp h▸own_x)
  ·exact fun h=>(List.mem_append.mp h).elim N.ap fun h=>hr (List.mem_singleton.mp h▸own_a)
  ·exact fun h=>(List.mem_append.mp h).elim N.bp fun h=>hr (List.mem_singleton.mp h▸own_b)
  ·exact fun h=>(List.mem_append.mp h).elim N.cp fun h=>hr (List.mem_singleton.mp h▸own_c)
  ·exact fun h=>(List.mem_append.mp h).elim N.dp fun h=>hr (List.mem_singleton.mp h▸own_d)
  ·exact List.nodup_append.mpr ⟨N.np,by simp,fun c hc d hd z=>hr (by rw [← List.mem_singleton.mp hd,← z];exact ziM hc)⟩
  ·exact fun c hc=>(List.mem_append.mp hc).elim (N.pq c) fun h z=>hr (by rw [← List.mem_singleton.mp h];exact zj7 z)
  ·exact fun c hc=>(List.mem_append.mp hc).elim (N.pds c) fun h z=>hr (by rw [← List.mem_singleton.mp h];exact zhR z)
theorem zgN {r b:Addr} (h:b∈({ e with ps:=e.ps++[r] }:ExAd).own):b∈e.own∨b=r:=by
 unfold ExAd.own at h ⊢;simp only [List.mem_cons,List.mem_append,List.not_mem_nil,or_false] at h ⊢;rcases h with h | h | h | h | h | (h | h) | h | h <;> simp [h]
theorem zeF (E:ExIn C H e st kvs) {b:Addr} (h:H b=none):b≠e.x∧b≠e.a∧b≠e.b∧b≠e.c∧b≠e.d∧b∉e.ps∧b∉e.qs∧b∉e.ds:=by
 have n:=E.new h;exact ⟨fun z=>n (z▸own_x),fun z=>n (z▸own_a),fun z=>n (z▸own_b),fun z=>n (z▸own_c),fun z=>n (z▸own_d),fun z=>n (ziM z),fun z=>n (zj7 z),fun z=>n (zhR z)⟩
theorem ExIn.deal {p q:Addr} {rows:List (List Int)} {ds:List Addr} {H5:Hp} (E:ExIn C H e st kvs) (hr:zcc st.hs st.rs rows=true) (R:zaP H p rows H1) (k:∀ b o,H1 b=some o→b≠e.x→H5 b=some o)
  (hx:H5 e.x=some (.ins C e.dx (exFs (.ref e.a) (.ref e.b) (.int st.step) (.bl true) (.ref p) (.ref q)))) (hq:H5 q=some (.lst (ds.map V.ref))) (nq:H1 q=none) (ld:ds.length=rows.length) (nd:ds.Nodup)
  (hd:∀ i,i < rows.length→H5 (ds.getD i 0)=some (.dK [])∧H1 (ds.getD i 0)=none∧ds.getD i 0≠q) :
  ∃ e',e'.x=e.x∧ExIn C H5 e' { st with dl:=some (rows,[]) } (rows.map fun _=>[])∧∀ b∈e'.own,b∈e.own∨H b=none:=by
 obtain ⟨s,np,qs,hp,lq,ndq,hrow⟩:=R;have N:=E.N;have hf:∀ {b o},H b=some o→b≠e.x→H5 b=some o:=fun h n=>k _ _ (s _ _ h) n;have mq:∀ b∈qs,H b=none∧b≠p∧∃ o,H1 b=some o:=fun b hb=>by
  obtain ⟨i,hi,ei⟩:=L2.mem_getD (d:=0) hb;obtain ⟨h1,h2,h3⟩:=hrow i (by omega);rw [ei] at h1 h2 h3;exact ⟨h2,h3,_,h1⟩
 have md:∀ b∈ds,H1 b=none∧b≠q:=fun b hb=>by
  obtain ⟨i,hi,ei⟩:=L2.mem_getD (d:=0) hb;obtain ⟨h1,h2,h3⟩:=hd i (by omega);rw [ei] at h1 h2 h3;exact ⟨h2,h3⟩
 have nqH:H q=none:=s.free nq;have P:=zeF E np;have Q:=zeF E nqH;have D:=fun {b} hb=>zeF E (s.free (md b hb).1);have M:=fun {b} hb=>zeF E (mq b hb).1;refine ⟨{ e with c:=p,d:=q,qs:=qs,ds:=ds },rfl,⟨hx,hf E.ha N.xa.symm,hf E.hb N.xb.symm,k _ _ hp P.1,hq,E.lp,lq,ld,fun i hi=>hf (E.rp i hi) (zbc N.xp (E.ip hi)),fun i hi=>?_,fun i hi=>?_,fun i hi r=>?_,fun i hi=>?_,by show (rows.map fun _=>_).length=rows.length;rw [List.length_map],nd_iff.mpr ?_,E.wf.ofDeal hr⟩,?_⟩
 ·exact k _ _ (hrow i hi).1 (M (zfT (show i < qs.length by rw [lq];exact hi))).1
 ·have hi':i < rows.length:=hi;have e0:(rows.map fun _=>([]:List (Key×V))).getD i []=[]:=by rw [List.getD_eq_getElem?_getD,List.getElem?_map,List.getElem?_eq_getElem hi'];rfl
  rw [e0];exact (hd i hi).1
 ·have hi':i < rows.length:=hi;have e0:(rows.map fun _=>([]:List (Key×V))).getD i []=[]:=by rw [List.getD_eq_getElem?_getD,List.getElem?_map,List.getElem?_eq_getElem hi'];rfl
  rw [e0];rfl
 ·have hi':i < rows.length:=hi;have e0:(rows.map fun _=>([]:List (Key×V))).getD i []=[]:=by rw [List.getD_eq_getElem?_getD,List.getElem?_map,List.getElem?_eq_getElem hi'];rfl
  rw [e0];exact Nat.zero_le _
 ·exact ⟨N.xa,N.xb,P.1.symm,Q.1.symm,N.xp,fun h=>(M h).1 rfl,fun h=>(D h).1 rfl,N.ab,P.2.1.symm,Q.2.1.symm,N.ap,fun h=>(M h).2.1 rfl,fun h=>(D h).2.1 rfl,P.2.2.1.symm,Q.2.2.1.symm,N.bp,fun h=>(M h).2.2.1 rfl,fun h=>(D h).2.2.1 rfl,
   fun z=>(by rw [← show p=q from z,hp] at nq;cases nq),P.2.2.2.2.2.1,fun h=>(mq _ h).2.1 rfl,fun h=>(by have:=(md _ h).1;rw [hp] at this;cases this),Q.2.2.2.2.2.1,fun h=>(by obtain ⟨o,z⟩:=(mq _ h).2.2;rw [nq] at z;cases z),fun h=>(md _ h).2 rfl,N.np,ndq,nd,
   fun b h h'=>(M h').2.2.2.2.2.1 h,fun b h h'=>(D h').2.2.2.2.2.1 h,fun b h h'=>(by obtain ⟨o,z⟩:=(mq _ h).2.2;rw [(md _ h').1] at z;cases z)⟩
 ·intro b hb;unfold ExAd.own at hb;simp only [List.mem_cons,List.mem_append] at hb;rcases hb with h | h | h | h | h | h | h | h
  ·exact .inl (h▸own_x)
  ·exact .inl (h▸own_a)
  ·exact .inl (h▸own_b)
  ·exact .inr (h▸np)
  ·exact .inr (h▸nqH)
  ·exact .inl (ziM h)
  ·exact .inr (mq _ h).1
  ·exact .inr (s.free (md _ h).1)
end
theorem Wf.n10 {st:ExS} (w:Wf st) (B:InB st.hs st.rs):st.nm.length≤10:=by
 cases h:st.dl with
 | none=>rw [zj8 h];exact Nat.zero_le _
 | some d=>rw [w.ln (by rw [h];rfl)];exact B.lp
def zgO (st:ExS):List Int:=zgF st.rs st.nm
end Prf
namespace L2
open PySem PySem.Spec PyProof.Rows
section
variable {X:Cx} {K:PySem.W.Frag}
variable {H:Hp} {Q:VK} {a:Addr} {ns:List Int}
end
end L2
namespace Prf
open PySem PySem.Spec PyProof.Rows L2
section
variable {H H':Hp} {l:LdA} {hs:List Int} {rs nm en:List (List Int)} {K:PySem.W.Frag}
end
end Prf
namespace L2
open PySem PySem.Spec PyProof.Rows
section
variable {X:Cx} {K:PySem.W.Frag}
def rEqE (K:PySem.W.Frag):R2:=fun x y H Q=>∃ a b xs,x=.ref a∧y=.ref b∧SqL K H a xs∧SqL K H b []∧Q (.bl (decide (xs=[]))) H
def rNeE (K:PySem.W.Frag):R2:=fun x y H Q=>∃ a b xs,x=.ref a∧y=.ref b∧SqL K H a xs∧SqL K H b []∧Q (.bl (!decide (xs=[]))) H
theorem zk7 (hu:X.A.units < cLine):OpR X (compareOp .Eq) (rEqE X.K):=by
 intro pins s σ H x y v u Q I rx ry h;obtain ⟨a,b,xs,rfl,rfl,h1,h2,q⟩:=h
 cases rx
 cases ry
 obtain ⟨its1,r1,p1,z1⟩:=I.list h1;obtain ⟨its2,r2,p2,z2⟩:=I.list h2;have l1:=r1.length;have l2:its2.length=0:=r2.length.symm
 by_cases hl:xs=[]
 ·subst hl;have l1':its1.length=0:=l1.symm;refine SeqAt.eq_listAt (e:=fun _=>true) p1.isList p2.isList (by simp;omega) hu (fun j h1 h2=>by simp at h1;omega) ⟨.bl _,H,I,rfl,?_⟩;rw [List.size_toArray,l1'];rw [decide_eq_true rfl] at q;exact q
 ·have:xs.length≠0:=fun z=>hl (List.eq_nil_of_length_eq_zero z);refine SeqAt.eq_list_lengthsAt p1.isList p2.isList (by simp;omega) hu ⟨.bl false,H,I,rfl,?_⟩;rw [decide_eq_false hl] at q;exact q
theorem zk8 (hu:X.A.units < cLine):OpR X (compareOp .NotEq) (rNeE X.K):=by
 intro pins s σ H x y v u Q I rx ry h;obtain ⟨a,b,xs,rfl,rfl,h1,h2,q⟩:=h
 cases rx
 cases ry
 obtain ⟨its1,r1,p1,z1⟩:=I.list h1;obtain ⟨its2,r2,p2,z2⟩:=I.list h2;have l1:=r1.length;have l2:its2.length=0:=r2.length.symm
 by_cases hl:xs=[]
 ·subst hl;have l1':its1.length=0:=l1.symm;refine SeqAt.RcNeAt.lists (e:=fun _=>true) p1.isList p2.isList (by simp;omega) hu (fun j h1 h2=>by simp at h1;omega) _ _ _ _ ⟨.bl _,H,I,rfl,?_⟩;rw [List.size_toArray,l1'];rw [decide_eq_true rfl] at q;exact q
 ·have:xs.length≠0:=fun z=>hl (List.eq_nil_of_length_eq_zero z);refine SeqAt.RcNeAt.lists_lengths p1.isList p2.isList (by simp;omega) hu _ _ _ _ ⟨.bl true,H,I,rfl,?_⟩;rw [decide_eq_false hl] at q;exact q
def rEq2 (K:PySem.W.Frag):R2:=fun x y H Q=>zjS K x y H Q∨rEqE K x y H Q
def rNe2 (K:PySem.W.Frag):R2:=fun x y H Q=>rNeG K x y H Q∨rNeE K x y H Q
theorem zaM (h:X.K=K) (hu:X.A.units < cLine):OpR X (compareOp .Eq) (rEq2 K):=(zjT h hu).or (h▸zk7 hu)
theorem zff (h:X.K=K) (hu:X.A.units < cLine):OpR X (compareOp .NotEq) (rNe2 K):=(zkE h).or (h▸zk8 hu)
section
variable {H:Hp} {Q:VK} {i j:Int}
theorem zk9 (q:Q (.bl (decide (i=j))) H):rEq2 K (.int i) (.int j) H Q:=.inl (zjU q)
theorem zhS {a b:Addr} {xs:List V} (h1:SqL K H a xs) (h2:SqL K H b []) (q:Q (.bl (decide (xs=[]))) H):rEq2 K (.ref a) (.ref b) H Q:=.inr ⟨a,b,xs,rfl,rfl,h1,h2,q⟩
theorem zla (q:Q (.bl (!decide (i=j))) H):rNe2 K (.int i) (.int j) H Q:=.inl (zjf q)
end
end
end L2
namespace Prf
open PySem PySem.Spec PyProof.Rows L2
theorem ExFr.trans {H H1 H2:Hp} {F F1 F2:Addr→Prop} (a:ExFr H H1 F F1) (b:ExFr H1 H2 F1 F2):ExFr H H2 F F2 :=
 ⟨fun c o e n=>b.kp c o (a.kp c o e n) (fun z=>(a.fp c z).elim n fun z=>by rw [e] at z;cases z),fun c z=>(b.fp c z).elim (a.fp c) fun z=>by
  by_cases h:F c
  ·exact .inl h
  ·right
   cases hc:H c with
   | none=>rfl
   | some o=>rw [a.kp c o hc h] at z;cases z⟩
end Prf
namespace L2
open PySem PySem.Spec PyProof.Rows
section
variable {X:Cx} {K:PySem.W.Frag}
def rInN (K:PySem.W.Frag) (neg:Bool):R2:=fun x y H Q=>x=.non∧∃ p vs,y=.ref p∧SqL K H p vs∧(∀ v∈vs,∃ q ys,v=.ref q∧SqL K H q ys)∧Q (.bl neg) H
def rInR (K:PySem.W.Frag) (neg:Bool):R2:=fun x y H Q=>∃ (a p:Addr) (xs:List Int) (rows:List (List Int)),x=.ref a∧y=.ref p∧H a=some (.lst (xs.map V.int))∧LL K H p rows∧Q (.bl (if neg then !decide (xs∈rows) else decide (xs∈rows))) H
theorem zlb {pins:List (Addr×Obj)} {σ:St} {H:Hp} {s:Shared} {vs:List V} {its:List Value} (hu:X.A.units+1 < cLine) (I:Inv X pins σ H s) (r:Vals vs its) (h:∀ v∈vs,∃ q ys,v=.ref q∧SqL X.K H q ys):∀ y∈its.toArray,SeqAt.EqAt X.A.in1 s y .none false:=fun y hy=>by
 have hy':y∈its:=by simpa using hy
 obtain ⟨i,hi,e⟩:=List.getElem_of_mem hy';have hl:=r.length;obtain ⟨u,hu1,hu2⟩:=r.get (i:=i) (x:=vs[i]'(by omega)) (List.getElem?_eq_getElem (by omega));rw [List.getElem?_eq_getElem hi] at hu1;have e2:u=y:=by rw [← e];exact (Option.some.inj hu1).symm
 subst e2;obtain ⟨q,ys,hq,hs⟩:=h _ (List.getElem_mem (show i < vs.length by omega));rw [hq] at hu2
 cases hu2
 obtain ⟨_,_,pl,_⟩:=I.list hs;exact SeqAt.EqAt.list_none pl.isList hu
theorem zlc (hu:X.A.units+1 < cLine):OpR X (compareOp .In) (rInN X.K false):=by
 intro pins s σ H x y v u Q I rx ry h;obtain ⟨rfl,p,vs,rfl,hq,hv,q⟩:=h
 cases rx
 cases ry
 obtain ⟨its,r,pl,hz⟩:=I.list hq;refine SeqAt.in_listAt (fun _=>false) pl.isList (zlb hu I r hv) ⟨.bl _,H,I,rfl,?_⟩;rw [show its.toArray.any (fun _=>false)=false by simp];exact q
def rowE (H:Hp) (xs:List Int):Value→Bool
 | .ref q=>match H q with
   | some (.lst vs)=>decide (vs=xs.map V.int)
   | _=>false
 | _=>false
theorem map_int_inj:∀ {xs ys:List Int},xs.map V.int=ys.map V.int→xs=ys
 | [],[],_=>rfl
 | [],_::_,h=>by simp at h
 | _::_,[],h=>by simp at h
 | x::xs,y::ys,h=>by
   rw [List.map_cons,List.map_cons] at h;injection h with h1 h2;injection h1 with h1;rw [h1,map_int_inj h2]
theorem zlS {pins:List (Addr×Obj)} {σ:St} {H:Hp} {s:Shared} {a q:Addr} {xs ys:List Int} {A:Around} (hu:A.units < cLine) (I:Inv X pins σ H s) (ha:H a=some (.lst (xs.map V.int))) (hq:H q=some (.lst (ys.map V.int))):SeqAt.EqAt A s (.ref q) (.ref a) (decide (ys=xs)):=by
 by_cases e:q=a
 ·subst e;rw [ha] at hq;have:=map_int_inj (HO.lst.inj (Option.some.inj hq));rw [decide_eq_true this.symm];exact SeqAt.EqAt.same _
 ·obtain ⟨its1,r1,p1,z1⟩:=I.list (SqL.of (K:=X.K) hq);obtain ⟨its2,r2,p2,z2⟩:=I.list (SqL.of (K:=X.K) ha);have l1:=r1.length;have l2:=r2.length;rw [List.length_map] at l1 l2;refine SeqAt.EqAt.of_refs e ?_
  by_cases hl:ys.length=xs.length
  ·have key:=SeqAt.RcAt.lists (A:=A) (e:=fun j=>eqV ((ys.map V.int).getD j .non) ((xs.map V.int).getD j .non)) p1.isList p2.isList (by simp;omega) hu (fun j h1 h2=>?_)
   ·have e1:its1.toArray.size=(ys.map V.int).length:=by simp;omega
    rw [e1,eqVs_all (by simp;omega),eqVs_ints] at key;exact key
   ·simp only [List.size_toArray] at h1 h2;have e1:(ys.map V.int)[j]? = some ((ys.map V.int).getD j .non):=by rw [List.getD_eq_getElem?_getD,List.getElem?_eq_getElem (by simp;omega)];rfl
    have e2:(xs.map V.int)[j]? = some ((xs.map V.int).getD j .non):=by rw [List.getD_eq_getElem?_getD,List.getElem?_eq_getElem (by simp;omega)];rfl
    obtain ⟨u1,a1,b1⟩:=r1.get e1;obtain ⟨u2,a2,b2⟩:=r2.get e2;have c1:its1.toArray[j]=u1:=by simpa [List.getElem?_eq_getElem h1] using a1
    have c2:its2.toArray[j]=u2:=by simpa [List.getElem?_eq_getElem h2] using a2
    rw [c1,c2];have fl:∀ zs:List Int,(zs.map V.int).all flatV=true:=fun zs=>by simp [flatV]
    exact zhp b1 b2 (List.all_eq_true.mp (fl _) _ (List.mem_of_getElem? e1)) (List.all_eq_true.mp (fl _) _ (List.mem_of_getElem? e2))
  ·rw [decide_eq_false (fun z=>hl (by rw [z]))];exact SeqAt.RcAt.lists_lengths p1.isList p2.isList (by simp;omega) hu
theorem zgP {pins:List (Addr×Obj)} {σ:St} {H:Hp} {s:Shared} {a:Addr} {xs:List Int} {rows:List (List Int)} {ps:List Addr} {its:List Value} (hu:X.A.units+1 < cLine) (I:Inv X pins σ H s) (ha:H a=some (.lst (xs.map V.int))) (r:Vals (ps.map V.ref) its) (hl:ps.length=rows.length)
  (hr:∀ i,i < rows.length→H (ps.getD i 0)=some (.lst ((rows.getD i []).map V.int))):(∀ y∈its.toArray,SeqAt.EqAt X.A.in1 s y (.ref a) (rowE H xs y))∧its.toArray.any (rowE H xs)=decide (xs∈rows):=by
 have hlen:=r.length;rw [List.length_map] at hlen;have at_:∀ i (hi:i < its.length),its[i]=.ref (ps.getD i 0):=fun i hi=>by
  obtain ⟨u,hu1,hu2⟩:=r.get (i:=i) (x:=.ref (ps.getD i 0)) (by rw [List.getElem?_map,List.getElem?_eq_getElem (by omega),List.getD_eq_getElem?_getD,List.getElem?_eq_getElem (by omega)];rfl);rw [List.getElem?_eq_getElem hi] at hu1
  cases hu2
  exact Option.some.inj hu1
 have ev:∀ i,i < rows.length→rowE H xs (.ref (ps.getD i 0))=decide (rows.getD i []=xs):=fun i hi=>by
  unfold rowE;simp only [hr i hi];rw [decide_eq_decide];exact ⟨map_int_inj,fun z=>by rw [z]⟩
 refine ⟨fun y hy=>?_,?_⟩
 ·obtain ⟨i,hi,e⟩:=List.getElem_of_mem (show y∈its by simpa using hy);rw [← e,at_ i hi,ev i (by omega)];exact zlS (A:=X.A.in1) hu I ha (hr i (by omega))
 ·rw [show its.toArray.any (rowE H xs)=its.any (rowE H xs) by simp,Bool.eq_iff_iff,List.any_eq_true,decide_eq_true_eq];constructor
  ·rintro ⟨y,hy,e⟩;obtain ⟨i,hi,e'⟩:=List.getElem_of_mem hy;rw [← e',at_ i hi,ev i (by omega)] at e;rw [← of_decide_eq_true e];rw [List.getD_eq_getElem?_getD,List.getElem?_eq_getElem (show i < rows.length by omega)];exact List.getElem_mem _
  ·intro h;obtain ⟨i,hi,e⟩:=L2.mem_getD (d:=[]) h;refine ⟨its[i]'(by omega),List.getElem_mem _,?_⟩;rw [at_ i (by omega),ev i hi,decide_eq_true e]
theorem zld (hu:X.A.units+1 < cLine):OpR X (compareOp .In) (rInR X.K false):=by
 intro pins s σ H x y v u Q I rx ry h;obtain ⟨a,p,xs,rows,rfl,rfl,ha,⟨ps,hp,hl,hr⟩,q⟩:=h
 cases rx
 cases ry
 obtain ⟨its,r,pl,hz⟩:=I.list hp;obtain ⟨h1,h2⟩:=zgP hu I ha r hl hr;refine SeqAt.in_listAt (rowE H xs) pl.isList h1 ⟨.bl _,H,I,rfl,?_⟩;rw [h2];exact q
def rIn2 (K:PySem.W.Frag) (neg:Bool):R2:=fun x y H Q=>rIn K neg x y H Q∨(rInN K neg x y H Q∨rInR K neg x y H Q)
theorem zhT (h:X.K=K) (hu:X.A.units+1 < cLine):OpR X (compareOp .In) (rIn2 K false):=(zkD h).or ((h▸zlc hu).or (h▸zld hu))
end
section
variable {H:Hp} {K:PySem.W.Frag} {Q:VK} {i:Int} {a p:Addr}
theorem zle {xs:List Int} (h:SqL K H a (xs.map V.int)) (q:Q (.bl (decide (i∈xs))) H):rIn2 K false (.int i) (.ref a) H Q:=.inl (zlO h q)
end
end L2
namespace Prf
open PySem PySem.Spec PyProof.Rows L2
end Prf
namespace L2
open PySem PySem.Spec PyProof.Rows
section
variable {X:Cx} {K:PySem.W.Frag} {H:Hp} {Q:VK} {i:Int} {b:Bool}
def cInt:List V→Hp→VK→Prop:=fun xs H Q=>(∃ i,xs=[.int i]∧Q (.int i) H)∨∃ k,xs=[.bl k]∧Q (.int (if k then 1 else 0)) H
theorem zcJ (h:X.K=K):zck X (.type "int") cInt:=call_int1
theorem zlf (q:Q (.int (if b then 1 else 0)) H):cInt [.bl b] H Q:=.inr ⟨b,rfl,q⟩
end
end L2
namespace Prf
open PySem PySem.Spec PyProof.Rows L2
end Prf
namespace Prf
open PySem PySem.Spec PyProof.Rows L2
end Prf
namespace L2
open PySem PySem.Spec PyProof.Rows
section
variable {σ:St} {H:Hp} {Q:VK} {K:PySem.W.Frag} {js:List Nat} {te:TE} {J:It} {n k:Nat} {g:TG} {w:Nat→St} {x:Nat→V}
end
end L2
namespace Prf
open PySem PySem.Spec PyProof.Rows L2
section
variable {C:Addr} {H H' H1 Hb:Hp} {x m a b c d:Addr} {F F':Addr→Prop} {st:ExS} {l:LdA} {i:Nat} {ps qs:List Addr} {hs:List Int} {rs rows:List (List Int)} {stp:Int} {G G' G1:Addr→Prop}
end
end Prf
namespace L2
open PySem PySem.Spec PyProof.Rows
def cutH (h:Heap) (l:List Addr):Heap:=⟨h.objs.mapIdx fun i o=>if i∈l then ⟨o.cls,o.dict,.freed,o.slots⟩ else o,h.life⟩
theorem zeG {h:Heap} {l:List Addr} {b:Addr}:(cutH h l).get? b=if b∈l then none else h.get? b:=by
 unfold cutH Heap.get?;simp only [Array.getElem?_mapIdx]
 cases e:h.objs[b]? with
 | none=>simp
 | some o =>
   by_cases hb:b∈l
   ·simp [hb]
   ·simp [hb]
theorem zjg {P:Program} {w:World} {H:Hp} {h:Heap} {a:Addr}:∀ {o:HO},zbl P w H h a o→∃ u,h.get? a=some u
 | .lst _,⟨_,_,_,_,e⟩=>⟨_,e⟩
 | .tup _,⟨_,_,_,_,e,_⟩=>⟨_,e⟩
 | .dK _,⟨_,_,_,_,_,_,_,e,_⟩=>⟨_,e⟩
 | .dT _,⟨_,_,_,_,_,_,_,e,_⟩=>⟨_,e⟩
 | .set _ _,⟨_,_,_,_,e,_⟩=>⟨_,e⟩
 | .ins _ _ _,⟨_,_,_,e,_⟩=>⟨_,e⟩
 | .own _,x=>x
 | .xd _,⟨_,⟨_,_,_,e,_⟩,_⟩=>⟨_,e⟩
 | .rng _ _,⟨_,_,_,e⟩=>⟨_,e⟩
 | .frz _ _,⟨e,_⟩=>⟨_,e⟩
 | .tbl _,e=>⟨_,e⟩
 | .met _ _,e=>⟨_,e⟩
 | .ext _,⟨_,⟨_,e⟩,_⟩=>⟨_,e⟩
structure Cov (P:Program) (w:World) (l:List Env) (H:Hp) (h0:Heap) (H':Hp) (B h:Heap):Prop where
 un:Un (frs l) [] H H' h0 h
 hok:HOk P w H' h
 frf:∀ b∈frs l,H' b=none
 cov:∀ b o,h.get? b=some o→(H' b≠none∨∃ o',h0.get? b=some o')→b∉frs l→B.get? b=some o
section
variable {P:Program} {w:World} {l:List Env} {H H':Hp} {h0 B h h':Heap}
theorem Cov.step (C:Cov P w l H h0 H' B h) (fr:h.FunFrames B l) (st:B.StaysIn h') (up:h.UpToSlots h'):Cov P w l H h0 H' B h':=by
 have kp:∀ b o,h.get? b=some o→(H' b≠none∨∃ o',h0.get? b=some o')→b∉frs l→h'.get? b=some o:=fun b o e c n=>st b o (C.cov b o e c n);have slots:∀ b o,h.get? b=some o→b∈frs l→∃ sl,h'.get? b=some { o with slots:=sl }:=fun b o e m=>by
  obtain ⟨_,o2,e2,d2⟩:=fr.mem m;rw [e] at e2;cases e2
  exact up b o e d2
 refine ⟨⟨fun b o e n m _=>?_,fun b o e n m x=>?_,C.un.free,fun b o e x=>?_,C.un.tups,C.un.frzs,C.un.tbls⟩,fun a o e=>?_,C.frf,fun b o e c n=>?_⟩
 ·exact kp b o (C.un.keep b o e n m (by simp)) (.inr ⟨o,e⟩) m
 ·obtain ⟨sl,e1⟩:=C.un.slot b o e n m x;obtain ⟨sl2,e2⟩:=slots b _ e1 m;exact ⟨sl2,e2⟩
 ·obtain ⟨o1,e1⟩:=C.un.there b o e x
  by_cases m:b∈frs l
  ·obtain ⟨sl,e2⟩:=slots b _ e1 m;exact ⟨_,e2⟩
  ·exact ⟨o1,kp b o1 e1 (.inr ⟨o,e⟩) m⟩
 ·refine (C.hok a o e).stay (fun b u hb q=>?_) (fun _ q=>q) fun _ _ q=>q;have hH:H' b≠none:=by
   rcases hb with rfl | z
   ·rw [e];simp
   ·rw [z];simp
  exact kp b u q (.inl hH) fun m=>hH (C.frf b m)
 ·have e1:∃ o1,h.get? b=some o1:=by
   rcases c with c | ⟨o',e'⟩
   ·cases hb:H' b with
    | none=>exact absurd hb c
    | some u =>
      exact zjg (C.hok b u hb)
   ·exact C.un.there b o' e' (by simp)
  obtain ⟨o1,e1⟩:=e1;have e2:=C.cov b o1 e1 c n;have e3:=st b o1 e2;rw [e] at e3;cases e3
  exact e2
end
structure Fly (P:Program) (w:World) (l:List Env) (H:Hp) (s:Shared) (H':Hp) (e:Addr) (cls:Value) (s':Shared):Prop where
 os:s'.os=s.os
 bare:AllBare s'.gens
 fl:∃ (B:Heap) (a0:Value),Heap.FlyingW B l e cls a0 s'.heap∧Cov P w l H s.heap H' B s'.heap
def CX1 (P:Program) (w:World):CXT:=fun l H s E e s'=>∃ a cls H',e=.ref a∧Fly P w l H s H' a cls s'∧E cls none H'
section
variable {P:Program} {w:World} {K:PySem.W.Frag} {mg:Str→Option Value} {base:Heap} {N:List Str} {qual:Str} {scope:Scope} {f:Addr} {cd:Value} {A:Around} {outer:List Env} {s:Shared} {H:Hp} {E:XK}
theorem zhU {pins:List (Addr×Obj)} {σ:St} {H1 H2:Hp} {s1:Shared} {B h2 h':Heap} (I:Inv (cxOf (CX1 P w) P w K mg base N qual scope f cd A outer s H E) pins σ H1 s1)
  (C:Cov P w (envOfC qual scope s.heap.objs.size f cd::outer) H1 s1.heap H2 B h2) (fr:h2.FunFrames B (envOfC qual scope s.heap.objs.size f cd::outer)) (st:B.StaysIn h') (up:h2.UpToSlots h'):Cov P w outer H s.heap H2 B h':=by
 have C':=C.step fr st up;have hfs:∀ b,b∈frs (envOfC qual scope s.heap.objs.size f cd::outer)↔b=s.heap.objs.size∨b∈frs outer:=fun b=>by
  show b∈s.heap.objs.size::frs outer↔_;exact List.mem_cons
 have nL:∀ {b:Addr} {o:Obj},s.heap.get? b=some o→b≠s.heap.objs.size:=fun e=>Nat.ne_of_lt (Heap.lt_size e);have bs:=I.base;have nx:∀ b:Addr,b∉([]:List Addr):=fun b=>by simp
 refine ⟨⟨fun b o e n m x=>?_,fun b o e n m x=>?_,fun b o e n x=>?_,fun b o e x=>?_,fun b xs q=>C'.un.tups b xs (bs.tups b xs q),fun b o u q=>C'.un.frzs b o u (bs.frzs b o u q),fun b ps q=>?_⟩,C'.hok,fun b m=>C'.frf b ((hfs b).mpr (.inr m)),fun b o e c n=>?_⟩
 ·have e1:=bs.keep b o e n m (nx b);exact C'.un.keep b o e1 (bs.free b o e n (nx b)) (fun z=>((hfs b).mp z).elim (nL e) m) (nx b)
 ·obtain ⟨sl,e1⟩:=bs.slot b o e n m (nx b);obtain ⟨sl2,e2⟩:=C'.un.slot b _ e1 (bs.free b o e n (nx b)) ((hfs b).mpr (.inr m)) (nx b);exact ⟨sl2,e2⟩
 ·obtain ⟨o1,e1⟩:=bs.there b o e (nx b);exact C'.un.free b o1 e1 (bs.free b o e n (nx b)) (nx b)
 ·obtain ⟨o1,e1⟩:=bs.there b o e (nx b);exact C'.un.there b o1 e1 (nx b)
 ·obtain ⟨m1,e1⟩:=bs.tbls b ps q;obtain ⟨m2,e2⟩:=C'.un.tbls b _ e1;exact ⟨m1++m2,by rw [e2,Array.append_assoc]⟩
 ·refine C'.cov b o e (c.imp (fun z=>z) fun ⟨o',e'⟩=>bs.there b o' e' (nx b)) fun z=>?_;rcases (hfs b).mp z with z | z
  ·rcases c with c | ⟨o',e'⟩
   ·exact c (C'.frf b ((hfs b).mpr (.inl z)))
   ·exact nL e' z
  ·exact n z
theorem passX:zc9 (CX1 P w) (cxOf (CX1 P w) P w K mg base N qual scope f cd A outer s H E) E:=by
 rintro pins σ H1 s1 e s2 I ⟨a,cls,H2,rfl,⟨os,bare,B,a0,F,C⟩,q⟩;have hfr:=I.ok.frames;show wpAny (model P w) (A.deeper (envOfC qual scope s.heap.objs.size f cd)) (leaving (envOfC qual scope s.heap.objs.size f cd) (.ref a)) _ _ s2;refine wpAny_leaves_onW (L:=s.heap.objs.size) hfr rfl F fun h' F' up=>?_;exact ⟨a,cls,H2,rfl,⟨os.trans I.os,bare,B,a0,F',zhU I C F.2.2.1 F'.1 up⟩,q⟩
def ExcC (K:PySem.W.Frag) (C:Addr):Prop:=PySem.W.excIn K C [.type "ValueError",.type "Exception",.type "BaseException",.type "object"] "ValueError.__new__" = true
def zjh (E:XK) (C:Addr):TS:=fun _ _ H=>E (.ref C) none H
theorem zlg {h:Heap} {C:Addr} (X:K.In h) (q:ExcC K C):∃ nm qn N bs bm hd sn sub ab col dd k0 k1 k2 k3 k5 mN,
  h.get? C=some (excClassObj nm qn C N bs bm hd sn sub ab col dd k0 k1 k2 k3 k5 "ValueError.__new__")∧h.Ns N mN∧mN "__init__" = none∧OwnTail h [.type "ValueError",.type "Exception",.type "BaseException",.type "object"] bm:=by
 unfold ExcC PySem.W.excIn at q;split at q
 next dd cd sl ho =>
  split at q
  next C' bm k0 k1 k2 k3 n k5 hm hs =>
   obtain ⟨nm,bs,mro,ns,qn,hd,sn,sub,ab,col,del⟩:=cd;obtain ⟨ls⟩:=sl;simp only [Bool.and_eq_true,beq_iff_eq,Bool.not_eq_true'] at q hm hs;obtain ⟨⟨⟨⟨⟨q1,q2⟩,q3⟩,q4⟩,q5⟩,q6⟩:=q;subst q1 q2 q3 hm hs;exact ⟨nm,qn,ns,bs,bm,hd,sn,sub,ab,col,dd,k0,k1,k2,k3,k5,_,X _ _ ho,.of_isNs (PySem.W.isNs_of_in X q5),PySem.W.nsMap_none_of_in X q5 q6,PySem.W.tail_of_in X q4⟩
  next=>cases q
 next=>cases q
theorem ziO {env:Env} {l:List Env} {b:Addr} (z:b∈frs l):b∈frs (env::l):=by
 obtain ⟨e,m,q⟩:=List.mem_filterMap.mp z;exact List.mem_filterMap.mpr ⟨e,List.mem_cons_of_mem _ m,q⟩
theorem zek {h b0 B:Heap}:∀ {l:List Env},h.FunFrames b0 l→(∀ b∈frs l,B.get? b=none)→h.FunFrames B l
 | [],_,_=>trivial
 | env::l,⟨k,⟨L,o,hf,_,ho,hd⟩,r⟩,hb=>⟨k,⟨L,o,hf,hb L (List.mem_filterMap.mpr ⟨env,List.mem_cons_self,hf⟩),ho,hd⟩,zek r fun b z=>hb b (ziO z)⟩
theorem zcK {x msg:Str} {np cpos pos kpos:Pos} {j:Nat} {C:Addr} (hg:Gl (cxOf (CX1 P w) P w K mg base N qual scope f cd A outer s H E) x) (hm:mg x=some (.ref C)) (hc:ExcC K C) (hdb:(x == ("__debug__" : Str))=false:=by decide) :
  PS (cxOf (CX1 P w) P w K mg base N qual scope f cd A outer s H E) (.Raise (some (.Call (.Name x np) [.Constant (.str msg) j kpos] [] cpos)) none pos) (zjh E C):=by
 intro pins s1 σ H1 D I h;obtain ⟨nm,qn,Nn,bs,bm,hd,sn,sub,ab,col,dd,k0,k1,k2,k3,k5,mN,hC,hN,hni,T⟩:=zlg I.mod.kin hc;refine wpAny_Raise_call_subT PySem.F.excBase_ValueError (C:=C) (nm:=nm) (q:=qn) (N:=Nn) (bs:=bs) (bm:=bm) (hdct:=hd) (sn:=sn) (sub:=sub) (ab:=ab) (col:=col) (dd:=dd) (k0:=k0) (k1:=k1) (k2:=k2) (k3:=k3) (k5:=k5)
  (mN:=mN) (T.hasType PySem.F.excBase_ValueError.hasBase) (I.ok.hd rfl) rfl hni (zc0 I hg hm ⟨rfl,?_⟩ hdb)
 refine Calls.evalArgs_plain (thn ((zaa zax pa_nil:PA (cxOf (CX1 P w) P w K mg base N qual scope f cd A outer s H E) [.Constant (.str msg) j kpos] _) cpos pins s1 σ H1 (fun vs H2=>vs.length=1∧H2=H1) I ⟨rfl,rfl⟩) fun us s2 ⟨vs,H2,I2,r,hl,eH⟩=>?_);subst eH;refine ⟨rfl,by rw [← r.length,hl];decide,I2.bk _ _ hC,hN.keeps I2.bk,T.keeps I2.bk,fun h' e hx=>?_⟩;have hfr:=I2.ok.frames;have hsf:∀ b∈frs (envOfC qual scope s.heap.objs.size f cd::outer),H2 b=none:=I2.stkFree;have hst:s2.heap.FunFrames (cutH s2.heap (frs (envOfC qual scope s.heap.objs.size f cd::outer))) (envOfC qual scope s.heap.objs.size f cd::outer):=zek I2.stack fun b hb=>by rw [zeG,if_pos hb]
 show wpAny (model P w) (A.deeper (envOfC qual scope s.heap.objs.size f cd)) (leaving (envOfC qual scope s.heap.objs.size f cd) (.ref e)) _ _ { s2 with heap:=h' };refine wpAny_leaves_madeW (L:=s.heap.objs.size) hfr rfl (fun b o q=>by rw [zeG] at q;split at q;cases q;exact q) hst hx fun h'' tt F' _ _ up=>?_;refine ⟨e,.ref C,H2,rfl,⟨I2.os,I2.bare,_,_,F',zhU I2 (h2:=h') ⟨Un.kept hx.keeps,I2.hok.kept hx.keeps,hsf,fun b o q c n=>?_⟩ (hst.of_keeps fun b o q _=>⟨o,hx.keeps b o q,rfl⟩) F'.1 up⟩,h⟩;have e1:∃ o1,s2.heap.get? b=some o1:=by
  rcases c with c | c
  ·cases hb:H2 b with
   | none=>exact absurd hb c
   | some u=>exact zjg (I2.hok b u hb)
  ·exact c
 obtain ⟨o1,e1⟩:=e1;have e2:=hx.keeps b o1 e1;rw [q] at e2;cases e2
 rw [zeG,if_neg n];exact e1
end
end L2
namespace L2
open PySem PySem.Spec PyProof.Rows
section
variable {P:Program} {w:World} {K:PySem.W.Frag} {mg:Str→Option Value} {base:Heap}
theorem Fun.okX {x qual:Str} {st:Stmt} {f:Addr} {fd:FuncData} {N ps:List Str} {k:Nat} {sp:Sp} (F:Fun K x qual st f fd) (S:zak N ps (zab st)) (len:∀ vs H Q E,sp vs H Q E→vs.length=ps.length)
  (hb:∀ (cdv:Value) (A:Around) (outer:List Env) (s:Shared) (H:Hp) (vs:List V) (Q:VK) (E:XK),Room k (A.deeper (envOfC qual (zab st) s.heap.objs.size f cdv))→sp vs H Q E →
   ∃ t,PSs (cxOf (CX1 P w) P w K mg base N qual (zab st) f cdv A outer s H E) (zai st) t∧t ⟨fun _ H'=>Q .non H',Q,fun _ _=>False,fun _ _=>False⟩ (start N vs) H):FnOk P w K mg base (CX1 P w) (k+1) f fd ps sp:=by
 obtain ⟨oc,od,kV,doc,pm,an,cdv,ct,osl,rfl,lk,hcd⟩:=F.ex;exact zkx lk hcd S len fun A outer s H vs Q E hr hsp=>hb cdv A outer s H vs Q E hr hsp
end
section
variable {X:Cx} {pins:List (Addr×Obj)} {σ:St} {H:Hp} {s:Shared}
def HS (X:Cx) (pins:List (Addr×Obj)) (σ:St) (H:Hp) (a:Addr) (cls:Value) (s:Shared):Prop:=∃ s0 H0,Inv X pins σ H0 s0∧Fly X.prog X.w X.stack H0 s0 H a cls s
theorem HS.inv {a:Addr} {cls:Value} (h:HS X pins σ H a cls s):Inv X pins σ H s:=by
 obtain ⟨s0,H0,I,os,bare,B,a0,F,C⟩:=h;exact I.call' os C.un C.hok bare fun b z=>absurd z (by simp)
theorem HS.step {a:Addr} {cls:Value} (h:HS X pins σ H a cls s) {Q:Unit→Shared→Prop} {A:Around} {E:Value→Shared→Prop} (q:∀ h',HS X pins σ H a cls { s with heap:=h' }→Q () { s with heap:=h' }):wpAny (model X.prog X.w) A (setFlight (.ref a) none) Q E s:=by
 obtain ⟨s0,H0,I,os,bare,B,a0,F,C⟩:=h;exact lands_againW F fun h' F' up=>q h' ⟨s0,H0,I,os,bare,B,a0,F',C.step F.2.2.1 F'.1 up⟩
def WX (X:Cx) (σ:St) (cls:Value) (H:Hp):Prop:=∀ pins a s,HS X pins σ H a cls s→X.xe (.ref a) s
def EX (X:Cx) (σ:St):XK:=fun cls _ H=>WX X σ cls H
variable {k:Nat} {f C:Addr} {fd:FuncData} {ps:List Str} {sp:Sp} {x m:Str} {p pos apos:Pos} {e o:Expr} {es:List Expr} {ta:TE} {t:TA}
theorem zj9 {Q:VK} {us:List Value} {vs:List V} (F:FnOk X.prog X.w X.K X.mg X.base (CX1 X.prog X.w) k f fd ps sp) (hr:Room k X.A) (hb:Binds X.K fd ps []) (I:Inv X pins σ H s) (r:Vals vs us) (h:sp (vs++[]) H Q (EX X σ)) :
  wpAny (model X.prog X.w) X.A (call (.ref f) us) (EP X pins σ Q) X.xe s:=by
 have r2:Vals (vs++[]) (us++[]):=r.append .nil;have hl:(us++[]).length=ps.length:=by rw [← r2.length];exact F.len _ _ _ _ h
 refine wpAny_call (codeAny_mono (F.run X.A X.stack s H ⟨us,[]⟩ (us++[]) (vs++[]) Q (EX X σ) hr I.env0 (hb s us I.kIn hl) r2 h) fun r s' hq=>?_)
 match r,hq with
 | .error _,hq =>
   obtain ⟨a,cls,H',rfl,fly,q⟩:=hq;exact q pins a s' ⟨s,H,I,fly⟩
 | .ok (.ret u),hq=>exact I.after hq
 | .ok .next,hq=>exact False.elim hq
 | .ok .brk,hq=>exact False.elim hq
 | .ok .cont,hq=>exact False.elim hq
def zji (X:Cx) (sp:Sp) (t:TA):TE:=fun σ H Q=>ziw sp [] (EX X σ) t σ H Q
theorem ziP (F:FnOk X.prog X.w X.K X.mg X.base (CX1 X.prog X.w) k f fd ps sp) (hr:Room k X.A) (hg:Gl X x) (hm:X.mg x=some (.ref f)) (hk:PySem.W.keepIn X.K (.ref f)=true) (hb:Binds X.K fd ps []) (ha:PA X (e::es) t)
  (hdb:(x == ("__debug__" : Str))=false:=by decide) (he:starEach (e::es) X.env=(false,eval e X.env)::starEach es X.env:=by rfl) (hpl:(backTo pos (starEach es X.env)).any (·.1)=false:=by rfl) :
  PE X (.Call (.Name x p) (e::es) [] pos) (zji X sp t):=by
 intro pins s σ H Q I h;refine wpAny_Call_Name_kw (zc0 I hg hm ?_ hdb);refine PySem.W.callWith_K (h₀:=X.base) I.ok.mod.kin hk (thn (ha pos pins s σ H _ I h) fun us s1 ⟨vs,H1,I1,r,q⟩=>⟨I1.kIn,?_⟩) he hpl;exact zj9 F hr hb I1 r q
abbrev Cx.held (X:Cx) (v:Option Value):Cx:={ X with A:=X.A.mark v,calm:=false }
theorem Inv.held (I:Inv X pins σ H s) (v:Option Value):Inv (X.held v) pins σ H s :=
 ⟨⟨I.ok.mod,I.ok.kind,I.ok.glob,I.ok.blt,I.ok.above,I.ok.inj,I.ok.has,I.ok.cab,fun z=>(by cases z),I.ok.frames,I.ok.stk,I.ok.exf,I.ok.bs,I.ok.bsz,I.ok.noex,I.ok.exfs,I.ok.funs,I.ok.frf⟩,I.os,I.bare,I.base,I.loc,I.cell,I.free,I.freeC,I.pin,I.hok,I.len⟩
theorem Inv.unheld {v:Option Value} (ok:X.Ok) (I:Inv (X.held v) pins σ H s):Inv X pins σ H s:=⟨ok,I.os,I.bare,I.base,I.loc,I.cell,I.free,I.freeC,I.pin,I.hok,I.len⟩
theorem SP.unheld {v:Option Value} (ok:X.Ok) {D:Ends} {f:Flow} {s':Shared} (h:SP (X.held v) pins D f s'):SP X pins D f s':=by
 cases f with
 | next=>obtain ⟨σ',H',I,q⟩:=h;exact ⟨σ',H',I.unheld ok,q⟩
 | brk=>obtain ⟨σ',H',I,q⟩:=h;exact ⟨σ',H',I.unheld ok,q⟩
 | cont=>obtain ⟨σ',H',I,q⟩:=h;exact ⟨σ',H',I.unheld ok,q⟩
 | ret u=>obtain ⟨v,σ',H',I,r,q⟩:=h;exact ⟨v,σ',H',I.unheld ok,r,q⟩
def PH (X:Cx) (hs:List ExceptHandler) (th:Value→TS):Prop:=∀ pins s σ H D a cls,HS X pins σ H a cls s→th cls D σ H→wpAny (model X.prog X.w) X.A (handleBy (.ref a) X.env hs) (SP X pins D) X.xe s
def tCl (K:PySem.W.Frag) (C:Addr) (ts:TS) (th:Value→TS):Value→TS:=fun cls D σ H=>∃ b,PySem.W.exmOne K cls (.ref C)=some b∧if b=true then ts D σ H else th cls D σ H
theorem ph_nil:PH X [] (fun _=>tNever):=fun _ _ _ _ _ _ _ _ h=>h.elim
theorem zdF {np:Pos} {b₀:Stmt} {suite:List Stmt} {rest:List ExceptHandler} {ts:TS} {th:Value→TS} (hno:∀ e s,¬X.xe e s) (hg:Gl X x) (hm:X.mg x=some (.ref C)) (hs:∀ v,PSs (X.held v) (b₀::suite) ts) (hr:PH X rest th) (hdb:(x == ("__debug__" : Str))=false:=by decide) :
  PH X (.ExceptHandler (some (.Name x np)) none (b₀::suite) pos::rest) (tCl X.K C ts th):=by
 intro pins s σ H D a cls hh hq;obtain ⟨b,hx,q⟩:=hq;have I:=hh.inv;have LT:PySem.W.Looks (model X.prog X.w) s.heap (typeOf (.ref a)) cls:=by
  obtain ⟨s0,H0,_,_,_,B,a0,F,_⟩:=hh;obtain ⟨ob,hob,hc⟩:=F.there;subst hc;exact (PySem.W.Looks.ld hob).andThen .now
 refine wpAny_handleBy_cons (codeAny_handlers_test (zc0 (I.held (some (.ref a))) hg hm ?_ hdb)) (by intro z;cases z);refine (PySem.W.exm_one (K:=X.K) I.kIn LT hx).here ?_
 cases b with
 | true =>
   refine codeAny_handlers_suite (hh.step fun h' hh'=>?_);exact wpAny_mono (hs _ pins _ σ H D (hh'.inv.held _) q) (fun f s2 z=>z.unheld I.ok) fun e s2 z=>(hno e s2 z).elim
 | false=>exact hr pins s σ H D a cls hh q
def tTry (X:Cx) (tb:(Value→Shared→Prop)→List (Addr×Obj)→TS) (th:Value→TS):TS:=fun D σ H=>∀ xe pn,(∀ cls σ' H',th cls D σ' H'→WX { X with xe:=xe,pn:=pn } σ' cls H')→tb xe pn D σ H
theorem zlh {body:List Stmt} {h0:ExceptHandler} {hs:List ExceptHandler} {tb:(Value→Shared→Prop)→List (Addr×Obj)→TS} {th:Value→TS} (hst:X.stack=X.env::X.outer∧X.env.frame=some X.env.locals)
  (hb:∀ xe pn,PSs { X with xe:=xe,pn:=pn } body (tb xe pn)) (hh:PH X (h0::hs) th):PS X (.Try body (h0::hs) [] [] pos) (tTry X tb th):=by
 intro pins s σ H D I hq;have hpin:∀ {xe pins' σ' H' s'},Inv { X with xe:=xe,pn:=X.pn++pins } pins' σ' H' s'→Inv X pins σ' H' s':=fun J =>
  ⟨I.ok,J.os,J.bare,J.base,J.loc,J.cell,J.free,J.freeC,fun p hp=>J.pin p (List.mem_append_left _ hp),J.hok,J.len⟩
 have I':∀ xe,Inv { X with xe:=xe,pn:=X.pn++pins } [] σ H s:=fun xe =>
  ⟨⟨I.ok.mod,I.ok.kind,I.ok.glob,I.ok.blt,I.ok.above,I.ok.inj,I.ok.has,I.ok.cab,I.ok.hd,I.ok.frames,I.ok.stk,I.ok.exf,I.ok.bs,I.ok.bsz,I.ok.noex,I.ok.exfs,I.ok.funs,I.ok.frf⟩,I.os,I.bare,I.base,I.loc,I.cell,I.free,I.freeC,fun p hp=>I.pin p (by simpa using hp),I.hok,I.len⟩
 let xe:Value→Shared→Prop:=fun e s₁=>wpAny (model X.prog X.w) X.A (noteFrame e X.env) (fun _ s₂=>wpAny (model X.prog X.w) X.A (setFlight e none) (fun _ s₃=>wpAny (model X.prog X.w) X.A (handleBy e X.env (h0::hs)) (SP X pins D) X.xe s₃) X.xe s₂) X.xe s₁
 refine wpAny_Try_except (wpAny_mono (hb xe (X.pn++pins) [] s σ H D (I' xe) (hq xe (X.pn++pins) fun cls σ' H' z pins' a s' hs'=>?_)) (fun f s1 z=>?_) fun e s1 z=>z)
 ·obtain ⟨s0,H0,J,os,bare,B,a0,F,C⟩:=hs';have hfr:X.A.frames=some (X.env::X.outer):=by rw [← hst.1];exact I.ok.frames
  have F':Heap.FlyingW B (X.env::X.outer) a cls a0 s'.heap:=by rw [← hst.1];exact F
  show wpAny (model X.prog X.w) X.A (noteFrame (.ref a) X.env) _ X.xe s';refine wpAny_looks_onW hfr hst.2 F' fun h4 F4 up4=>wpAny_landsW F4 fun h5 F5 up5=>?_;exact hh pins _ σ' H' D a cls ⟨s0,H0,hpin J,os,bare,B,a0,by rw [hst.1];exact F5,C.step F.2.2.1 F5.1 (up4.trans up5)⟩ z
 ·have back:SP X pins D f s1:=by
   cases f with
   | next=>obtain ⟨σ',H',J,q⟩:=z;exact ⟨σ',H',hpin J,q⟩
   | brk=>obtain ⟨σ',H',J,q⟩:=z;exact ⟨σ',H',hpin J,q⟩
   | cont=>obtain ⟨σ',H',J,q⟩:=z;exact ⟨σ',H',hpin J,q⟩
   | ret u=>obtain ⟨v,σ',H',J,r,q⟩:=z;exact ⟨v,σ',H',hpin J,r,q⟩
  cases f with
  | next=>exact wpAny_execs_nil back
  | brk=>exact back
  | cont=>exact back
  | ret u=>exact back
end
end L2
namespace L2
open PySem PySem.Spec PyProof.Rows
structure XAd where
 OutOfTime:Addr
 UnknownNumber:Addr
 NotDue:Addr
 OutOfBounds:Addr
 Full:Addr
 ReadError:Addr
section
variable {X:Cx} {K:PySem.W.Frag} {C:Addr} {m:Str} {sp:Sp} {ta:TE} {tl:TA} {σ:St} {H:Hp} {Q:VK} {E:XK} {D:Ends} {tb:(Value→Shared→Prop)→List (Addr×Obj)→TS} {th:Value→TS} {ts:TS} {cls:Value}
theorem zhV (h:tl σ H fun vs H1=>sp vs H1 Q (EX X σ)):zji X sp tl σ H Q:=zje h
theorem zhW (h:E (.ref C) none H):zjh E C D σ H:=h
theorem zlT (h:∀ xe pn,(∀ cls σ' H',th cls D σ' H'→EX { X with xe:=xe,pn:=pn } σ' cls none H')→tb xe pn D σ H):tTry X tb th D σ H:=h
theorem ziQ (e:PySem.W.exmOne K cls (.ref C)=some true) (h:ts D σ H):tCl K C ts th cls D σ H:=⟨true,e,by rw [if_pos rfl];exact h⟩
theorem zfg (e:PySem.W.exmOne K cls (.ref C)=some false) (h:th cls D σ H):tCl K C ts th cls D σ H:=⟨false,e,by rw [if_neg (by decide)];exact h⟩
end
end L2
namespace L2
open PySem PySem.Spec PyProof.Rows
inductive Rf where | time | unknown | notdue | bounds | full
def XAd.at (xa:XAd):Rf→Addr
 | .time=>xa.OutOfTime
 | .unknown=>xa.UnknownNumber
 | .notdue=>xa.NotDue
 | .bounds=>xa.OutOfBounds
 | .full=>xa.Full
section
variable {K:PySem.W.Frag} {H:Hp} {Q:VK} {a b:Str}
theorem zgm (q:Q (.bl (decide (a=b))) H):rEq2 K (.str a) (.str b) H Q:=by
 refine .inl (.inl ⟨rfl,?_⟩);simpa using q
end
end L2
namespace Prf
open PySem PySem.Spec PyProof.Rows L2
def whyP (st:ExS) (h:Int):Option Rf:=if st.dl.isSome=true then some .time else if 1≤h∧h≤6 then (if st.hs.length < 10 then none else some .full) else some .unknown
def whyR (st:ExS) (h l:Int):Option Rf:=if st.dl.isSome=true then some .time else if 0≤h∧h≤6 then (if 0≤l∧l≤30 then (if st.rs.length < 8 then none else some .full) else some .bounds) else some .unknown
def whyS (st:ExS) (s:Int):Option Rf:=if st.dl.isSome=true then some .time else if 0≤s∧s≤100 then none else some .bounds
def whyD (st:ExS):Option Rf:=if st.dl.isSome=true then some .time else none
theorem zfh {st:ExS} {h:Int} (hd:st.dl=none) (hp:1≤h∧h≤6∧st.hs.length < 10):whyP st h=none:=by
 unfold whyP;rw [hd,if_neg (by decide),if_pos ⟨hp.1,hp.2.1⟩,if_pos hp.2.2]
theorem zfi {st:ExS} {h l:Int} (hd:st.dl=none) (hp:0≤h∧h≤6∧0≤l∧l≤30∧st.rs.length < 8):whyR st h l=none:=by
 unfold whyR;rw [hd,if_neg (by decide),if_pos ⟨hp.1,hp.2.1⟩,if_pos ⟨hp.2.2.1,hp.2.2.2.1⟩,if_pos hp.2.2.2.2]
theorem zhX {st:ExS} {s:Int} (hd:st.dl=none) (hp:0≤s∧s≤100):whyS st s=none:=by
 unfold whyS;rw [hd,if_neg (by decide),if_pos hp]
inductive Dd where
 | paper (h:Int)
 | reader (h l:Int)
 | step (s:Int)
def Dd.row:Dd→List Int
 | .paper h=>[0,h]
 | .reader h l=>[1,h,l]
 | .step s=>[2,s]
def Dd.why (st:ExS):Dd→Option Rf
 | .paper h=>whyP st h
 | .reader h l=>whyR st h l
 | .step s=>whyS st s
def Dd.done (st:ExS):Dd→ExS
 | .paper h=>{ st with hs:=st.hs++[h] }
 | .reader h l=>{ st with rs:=st.rs++[[h,l]] }
 | .step s=>{ st with step:=s }
def Dd.ans (st:ExS):Dd→Int
 | .paper _=>(st.hs.length:Int)+1
 | .reader _ _=>(st.rs.length:Int)+1
 | .step s=>s
def _root_.L2.Rf.word:Rf→Str
 | .time=>"time"
 | .unknown=>"unknown"
 | .notdue=>"not due"
 | .bounds=>"bounds"
 | .full=>"full"
theorem zeH {st:ExS} (h:¬st.dl.isSome=true):st.dl=none:=by
 cases e:st.dl with
 | none=>rfl
 | some _=>rw [e] at h;exact absurd rfl h
section
variable {C:Addr} {H0 H H' H1 H2:Hp} {x a b r:Addr} {F F':Addr→Prop} {st st':ExS} {ps:List Addr} {hs:List Int} {rs:List (List Int)} {h:Int} {row:List Int}
theorem InB.addR {h l:Int} (B:InB hs rs) (hl:rs.length < 8) (h1:0≤h∧h≤6) (l1:0≤l∧l≤30):InB hs (rs++[[h,l]]):=by
 refine ⟨B.lp,by rw [List.length_append,List.length_singleton];omega,B.hh,fun i hi=>?_,fun i hi=>?_,fun i hi=>?_⟩ <;>
 ·rw [List.length_append,List.length_singleton] at hi
  by_cases e:i < rs.length
  ·rw [zay e];first | exact B.r2 i e | exact B.rh i e | exact B.rl i e
  ·have:i=rs.length:=by omega
   subst this;rw [zas];first | rfl | exact h1 | exact l1
theorem Dd.inb {d:Dd} (B:InB st.hs st.rs) (h:d.why st=none):InB (d.done st).hs (d.done st).rs:=by
 cases d with
 | paper h' =>
   have h:whyP st h'=none:=h;unfold whyP at h
   by_cases c1:st.dl.isSome=true
   ·rw [if_pos c1] at h;cases h
   rw [if_neg c1] at h
   by_cases c2:1≤h'∧h'≤6
   ·rw [if_pos c2] at h
    by_cases c3:st.hs.length < 10
    ·exact InB.addP B c3 c2
    ·rw [if_neg c3] at h;cases h
   ·rw [if_neg c2] at h;cases h
 | reader h' l' =>
   have h:whyR st h' l'=none:=h;unfold whyR at h
   by_cases c1:st.dl.isSome=true
   ·rw [if_pos c1] at h;cases h
   rw [if_neg c1] at h
   by_cases c2:0≤h'∧h'≤6
   ·rw [if_pos c2] at h
    by_cases c3:0≤l'∧l'≤30
    ·rw [if_pos c3] at h
     by_cases c4:st.rs.length < 8
     ·exact InB.addR B c4 c2 c3
     ·rw [if_neg c4] at h;cases h
    ·rw [if_neg c3] at h;cases h
   ·rw [if_neg c2] at h;cases h
 | step s=>exact B
end
end Prf
namespace L2
open PySem PySem.Spec PyProof.Rows
section
variable {X:Cx} {K:PySem.W.Frag}
variable {H:Hp} {Q:VK} {σ:St} {p:Addr} {xs:List V} {i:Int} {v:V} {tl:TA}
def zhY (xs:List V) (H:Hp) (Q:VK):Prop:=xs.length≤sizeLine∧∀ p,H p=none→Q (.ref p) (upd H p (.tup xs))
theorem zjj (h:tl σ H fun xs H1=>zhY xs H1 Q):tTup tl σ H Q:=h
theorem ziR (hz:xs.length≤1000) (h:∀ p H2,H p=none→Same H H2→H2 p=some (.tup xs)→Q (.ref p) H2):zhY xs H Q :=
 ⟨Nat.le_of_lt (zaH hz),fun p hp=>h p _ hp (zaC hp) zaq⟩
end
end L2
namespace Prf
open PySem PySem.Spec PyProof.Rows L2
def unkB:Dd→Bool
 | .paper h=>!(decide (1≤h) && decide (h≤6))
 | .reader h _=>!(decide (0≤h) && decide (h≤6))
 | .step _=>false
def bndB:Dd→Bool
 | .paper _=>false
 | .reader _ l=>!(decide (0≤l) && decide (l≤30))
 | .step s=>!(decide (0≤s) && decide (s≤100))
def fulB (st:ExS):Dd→Bool
 | .paper _=>decide (10≤st.hs.length)
 | .reader _ _=>decide (8≤st.rs.length)
 | .step _=>false
def one (b:Bool) (w:Str):List Str:=if b=true then [w] else []
def timB (st:ExS):Bool:=st.dl.isSome
def zcv (st:ExS) (d:Dd):List Str:=one (timB st) "time"++one (unkB d) "unknown"++one (bndB d) "bounds"++one (fulB st d) "full"
theorem zlU {w:Str}:one true w=[w]:=rfl
theorem zlV {w:Str}:one false w=[]:=rfl
theorem zjk (st:ExS) (d:Dd):d.why st=if timB st=true then some .time else if unkB d=true then some .unknown else if bndB d=true then some .bounds else if fulB st d=true then some .full else none:=by
 unfold timB
 by_cases c1:st.dl.isSome=true
 ·rw [if_pos c1]
  cases d <;> simp [Dd.why,whyP,whyR,whyS,c1]
 ·rw [if_neg c1]
  cases d with
  | paper h =>
    show whyP st h=_;unfold whyP;rw [if_neg c1];have hb:bndB (.paper h)=false:=rfl
    by_cases c2:1≤h∧h≤6
    ·have hu:unkB (.paper h)=false:=by show (!(decide (1≤h) && decide (h≤6)))=false;rw [decide_eq_true c2.1,decide_eq_true c2.2];rfl
     rw [if_pos c2,hu,hb]
     by_cases c3:st.hs.length < 10
     ·have hf:fulB st (.paper h)=false:=decide_eq_false (by omega);rw [if_pos c3,hf];rfl
     ·have hf:fulB st (.paper h)=true:=decide_eq_true (by omega);rw [if_neg c3,hf];rfl
    ·have hu:unkB (.paper h)=true:=by
      show (!(decide (1≤h) && decide (h≤6)))=true;rw [Bool.not_eq_true',Bool.and_eq_false_iff]
      by_cases c3:1≤h
      ·exact .inr (decide_eq_false fun z=>c2 ⟨c3,z⟩)
      ·exact .inl (decide_eq_false c3)
     rw [if_neg c2,hu];rfl
  | reader h l =>
    show whyR st h l=_;unfold whyR;rw [if_neg c1]
    by_cases c2:0≤h∧h≤6
    ·have hu:unkB (.reader h l)=false:=by show (!(decide (0≤h) && decide (h≤6)))=false;rw [decide_eq_true c2.1,decide_eq_true c2.2];rfl
     rw [if_pos c2,hu]
     by_cases c3:0≤l∧l≤30
     ·have hb:bndB (.reader h l)=false:=by show (!(decide (0≤l) && decide (l≤30)))=false;rw [decide_eq_true c3.1,decide_eq_true c3.2];rfl
      rw [if_pos c3,hb]
      by_cases c4:st.rs.length < 8
      ·have hf:fulB st (.reader h l)=false:=decide_eq_false (by omega);rw [if_pos c4,hf];rfl
      ·have hf:fulB st (.reader h l)=true:=decide_eq_true (by omega);rw [if_neg c4,hf];rfl
     ·have hb:bndB (.reader h l)=true:=by
       show (!(decide (0≤l) && decide (l≤30)))=true;rw [Bool.not_eq_true',Bool.and_eq_false_iff]
       by_cases c5:0≤l
       ·exact .inr (decide_eq_false fun z=>c3 ⟨c5,z⟩)
       ·exact .inl (decide_eq_false c5)
      rw [if_neg c3,hb];rfl
    ·have hu:unkB (.reader h l)=true:=by
      show (!(decide (0≤h) && decide (h≤6)))=true;rw [Bool.not_eq_true',Bool.and_eq_false_iff]
      by_cases c3:0≤h
      ·exact .inr (decide_eq_false fun z=>c2 ⟨c3,z⟩)
      ·exact .inl (decide_eq_false c3)
     rw [if_neg c2,hu];rfl
  | step s =>
    show whyS st s=_;unfold whyS;rw [if_neg c1];have hu:unkB (.step s)=false:=rfl;have hf:fulB st (.step s)=false:=rfl
    by_cases c3:0≤s∧s≤100
    ·have hb:bndB (.step s)=false:=by show (!(decide (0≤s) && decide (s≤100)))=false;rw [decide_eq_true c3.1,decide_eq_true c3.2];rfl
     rw [if_pos c3,hu,hb,hf];rfl
    ·have hb:bndB (.step s)=true:=by
      show (!(decide (0≤s) && decide (s≤100)))=true;rw [Bool.not_eq_true',Bool.and_eq_false_iff]
      by_cases c5:0≤s
      ·exact .inr (decide_eq_false fun z=>c3 ⟨c5,z⟩)
      ·exact .inl (decide_eq_false c5)
     rw [if_neg c3,hu,hb];rfl
theorem zgQ (st:ExS) (d:Dd):(zcv st d=[]∧d.why st=none)∨∃ f r,d.why st=some f∧zcv st d=f.word::r:=by
 rw [zjk];unfold zcv
 cases timB st with
 | true=>exact .inr ⟨.time,_,rfl,rfl⟩
 | false =>
   cases unkB d with
   | true=>exact .inr ⟨.unknown,_,rfl,rfl⟩
   | false =>
     cases bndB d with
     | true=>exact .inr ⟨.bounds,_,rfl,rfl⟩
     | false =>
       cases fulB st d with
       | true=>exact .inr ⟨.full,_,rfl,rfl⟩
       | false=>exact .inl ⟨rfl,rfl⟩
theorem zgR (st:ExS) (d:Dd):(zcv st d).length≤4:=by
 unfold zcv
 cases timB st <;> cases unkB d <;> cases bndB d <;> cases fulB st d <;> decide
def rowO:Option Dd→List Int
 | some d=>d.row
 | none=>[3]
def whyO (st:ExS):Option Dd→Option Rf
 | some d=>d.why st
 | none=>whyD st
theorem zka {st:ExS} {d:Option Dd} {f:Rf} (h:whyO st d=some f):f=.time∨f=.unknown∨f=.bounds∨f=.full:=by
 cases d with
 | none =>
   have h:whyD st=some f:=h;unfold whyD at h
   by_cases c:st.dl.isSome=true
   ·rw [if_pos c] at h;cases h;exact .inl rfl
   ·rw [if_neg c] at h;cases h
 | some d =>
   have h:d.why st=some f:=h;rw [zjk] at h
   cases h1:timB st with
   | true=>rw [h1] at h;cases h;exact .inl rfl
   | false =>
     rw [h1] at h
     cases h2:unkB d with
     | true=>rw [h2] at h;cases h;exact .inr (.inl rfl)
     | false =>
       rw [h2] at h
       cases h3:bndB d with
       | true=>rw [h3] at h;cases h;exact .inr (.inr (.inl rfl))
       | false =>
         rw [h3] at h
         cases h4:fulB st d with
         | true=>rw [h4] at h;cases h;exact .inr (.inr (.inr rfl))
         | false=>rw [h4] at h;cases h
end Prf
namespace L2
section
open PySem PySem.Calls PyProof.Rows PySem.W PySem.Builtin PySem.Builtin.ObjectAttr PySem.Builtin.Getset_descriptor
variable {prog:Program} {w:World} {A:Around} {E:Value→Shared→Prop} {h:Heap} {g:Array GenState} {d:Drawn} {t:Nat} {os:OsState} {K:Frag} {C a:Addr} {o:Obj}
end
open PySem PySem.Spec PyProof.Rows
section
variable {X:Cx} {pins:List (Addr×Obj)} {σ:St} {H:Hp} {s:Shared} {K:PySem.W.Frag}
end
end L2
namespace Prf
open PySem PySem.Spec PyProof.Rows L2
section
variable {st:ExS} {b:Bool} {k r p h l s:Int}
end
end Prf
namespace L2
open PySem PySem.Builtin PySem.Builtin.Str PySem.StrLaws
theorem zfU (x:Str) (c:Nat):∀ (k i:Nat) (arr:Array Nat) (free:Nat),arr.size≤i→free≤i →
  (forIn (List.range' i k) (arr,free) (occBody x ⟨#[c]⟩ x.length (x.length+1))).run.fst.toList=arr.toList++(List.range' i k).filter fun j=>decide (x.cps.toList[j]? = some c)
 | 0,i,arr,free,_,_=>by simp
 | k+1,i,arr,free,h1,h2=>by
   rw [List.range'_succ,List.forIn_cons,List.filter_cons];unfold occBody
   by_cases hc:x.cps.toList[i]? = some c
   ·have hs:=(subAt_one x c i).mpr hc;have hlt:i < x.length:=by
     obtain ⟨hlt,_⟩:=List.getElem?_eq_some_iff.mp hc;simpa [Str.length] using hlt
    rw [if_pos ⟨⟨⟨by show arr.size < _;omega,h2⟩,hs.1⟩,hs.2⟩,if_pos (decide_eq_true hc)];have ih:=zfU x c k (i+1) (arr.push i) (i+1) (by rw [Array.size_push];omega) (Nat.le_refl _);show (forIn (List.range' (i+1) k) (arr.push i,i+1) (occBody x ⟨#[c]⟩ x.length (x.length+1))).run.fst.toList=_;rw [ih,Array.toList_push,List.append_assoc];rfl
   ·rw [if_neg (fun z=>hc ((subAt_one x c i).mp ⟨z.1.2,z.2⟩)),if_neg (by simpa using hc)];exact zfU x c k (i+1) arr free (by omega) (by omega)
def posC (x:Str) (c a k:Nat):List Nat:=(List.range' a k).filter fun j=>decide (x.cps.toList[j]? = some c)
theorem zbd (x:Str):x.cps.toList.length=x.length:=by simp [Str.length]
theorem zkb (x:Str) (c:Nat):occurrences x ⟨#[c]⟩ 0 x.length (x.length+1)=posC x c 0 x.length:=by
 rw [occ_eq,zfU x c _ 0 #[] 0 (Nat.le_refl _) (Nat.le_refl _)];show []++posC x c 0 (x.length+1)=_;rw [List.nil_append];unfold posC;rw [List.range'_concat,List.filter_append,List.filter_cons,if_neg,List.filter_nil,List.append_nil];rw [List.getElem?_eq_none (by rw [zbd];omega)];simp
def zfj (c:Nat):List (List Nat)→List Nat
 | []=>[]
 | [w]=>w
 | w::r=>w++c::zfj c r
theorem zgn (x:Str) (a b:Nat):(strSub x a b).cps.toList=(x.cps.toList.take b).drop a:=by
 simp [strSub,List.drop_take]
theorem zhZ {x y:Str} (h:x.cps.toList=y.cps.toList):x=y:=by
 obtain ⟨a⟩:=x;obtain ⟨b⟩:=y;exact congrArg Str.mk (Array.toList_inj.mp h)
theorem zfk (x:Str) (c:Nat):∀ (ws:List Str) (a:Nat),ws≠[]→(∀ w∈ws,c∉w.cps.toList)→x.cps.toList.drop a=zfj c (ws.map (·.cps.toList))→a≤x.length→partsFrom x 1 a (posC x c a (x.length-a))=ws
 | [],_,h,_,_,_=>absurd rfl h
 | [w],a,_,hn,hd,ha=>by
   have hd:x.cps.toList.drop a=w.cps.toList:=hd;have e:posC x c a (x.length-a)=[]:=by
    unfold posC;rw [List.filter_eq_nil_iff];intro j hj;have hj:=List.mem_range'_1.mp hj;intro z;have z:=of_decide_eq_true z;have:(x.cps.toList.drop a)[j-a]? = some c:=by rw [List.getElem?_drop,show a+(j-a)=j by omega];exact z
    rw [hd] at this;exact hn w (by simp) (List.mem_of_getElem? this)
   rw [e];show [strSub x a x.length]=[w]
   congr 1
   refine zhZ ?_;rw [zgn,← zbd,List.take_length,hd]
 | w::w2::r,a,_,hn,hd,ha=>by
   have hd:x.cps.toList.drop a=w.cps.toList++c::zfj c ((w2::r).map (·.cps.toList)):=hd;have hlen:=congrArg List.length hd;rw [List.length_drop,zbd,List.length_append,List.length_cons,zbd] at hlen;have e:posC x c a (x.length-a)=(a+w.length)::posC x c (a+w.length+1) (x.length-(a+w.length+1)):=by
    unfold posC;rw [show x.length-a=w.length+((x.length-(a+w.length+1))+1) by omega,← List.range'_append_1,List.filter_append,List.range'_succ,List.filter_cons];have e1:(List.range' a w.length).filter (fun j=>decide (x.cps.toList[j]? = some c))=[]:=by
     rw [List.filter_eq_nil_iff];intro j hj z;have hj:=List.mem_range'_1.mp hj;have z:=of_decide_eq_true z;have:(x.cps.toList.drop a)[j-a]? = some c:=by rw [List.getElem?_drop,show a+(j-a)=j by omega];exact z
     rw [hd,List.getElem?_append_left (by rw [zbd];omega)] at this;exact hn w (by simp) (List.mem_of_getElem? this)
    have e2:x.cps.toList[a+w.length]? = some c:=by
     have:(x.cps.toList.drop a)[w.length]? = some c:=by
      rw [hd,List.getElem?_append_right (by rw [zbd];omega),zbd,Nat.sub_self];rfl
     rw [List.getElem?_drop] at this;exact this
    rw [e1,if_pos (decide_eq_true e2),List.nil_append]
   rw [e];show strSub x a (a+w.length)::partsFrom x 1 (a+w.length+1) _=_;have hd2:x.cps.toList.drop (a+w.length+1)=zfj c ((w2::r).map (·.cps.toList)):=by
    rw [show a+w.length+1=a+(w.length+1) by omega,← List.drop_drop,hd,← zbd w,List.drop_append,List.drop_eq_nil_of_le (by omega),show w.cps.toList.length+1-w.cps.toList.length=1 by omega];rfl
   rw [zfk x c (w2::r) (a+w.length+1) (by simp) (fun v hv=>hn v (List.mem_cons_of_mem _ hv)) hd2 (by omega)]
   congr 1
   refine zhZ ?_;rw [zgn,List.drop_take,hd,show a+w.length-a=w.length by omega,← zbd,List.take_left]
theorem ziS (x:Str):1≤Builtin.Str.strKind x:=by
 unfold Builtin.Str.strKind;split
 ·decide
 ·split <;> decide
theorem ziT {ws:List Str} (h0:ws≠[]) (hn:∀ w∈ws,32∉w.cps.toList) {x:Str} (hx:x.cps.toList=zfj 32 (ws.map (·.cps.toList))) (hl:1≤x.length):Txt.split x (Str.ofString " ")=ws:=by
 have hs:(Str.ofString " ")=⟨#[32]⟩:=by decide +kernel
 have hp:=zfk x 32 ws 0 h0 hn (by rw [List.drop_zero];exact hx) (Nat.zero_le _);rw [Nat.sub_zero] at hp;rw [hs];unfold Txt.split;have k1:=ziS x;have k2:Builtin.Str.strKind (⟨#[32]⟩:Str)=1:=by decide +kernel
 rw [if_neg (by
  rw [Bool.or_eq_true];rintro (z | z)
  ·have:x.length < 1:=of_decide_eq_true z;omega
  ·have:=of_decide_eq_true z;omega),zkb]
 split
 next he =>
  rw [List.isEmpty_iff] at he;rw [he] at hp;rw [← hp];show [x]=[strSub x 0 x.length];rw [sub_whole]
 next=>
  rw [partsBetween_eq];exact hp
theorem app_list (a y:Str):(a++y).cps.toList=a.cps.toList++y.cps.toList:=PySem.W.KT.app_list a y
abbrev tS (i:Int):Str:=Str.ofString (toString i)
theorem zcL (m:Nat):∀ c∈(Str.ofString (toString ((m:Nat):Int))).cps.toList,48≤c∧c≤57:=by
 intro c hc;rw [PySem.W.KIN.signs_num] at hc;obtain ⟨ch,hch,e⟩:=List.mem_map.mp hc;have r:=PyProof.Rows.digit_range (Nat.isDigit_of_mem_toDigits (by decide) (by decide) hch);rw [← e];exact r
theorem zjl (m:Nat):(Str.ofString (toString ((m:Nat):Int))).cps.toList≠[]:=by
 rw [PySem.W.KIN.signs_num];intro e;have h:=PySem.toDigits_len_ge 10 m;rw [List.map_eq_nil_iff.mp e] at h;exact absurd h (by decide)
theorem zeI (m:Nat):(tS (Int.negSucc m)).cps.toList=45::(Str.ofString (toString ((m+1:Nat):Int))).cps.toList:=by
 rw [PyProof.Rows.signs_ofString,PySem.W.KIN.signs_num];show ("-"++Nat.repr (m+1)).toList.map Char.toNat=_;rw [String.toList_append,List.map_append,Nat.toList_repr];rfl
theorem ziU (i:Int):∀ c∈(tS i).cps.toList,c=45∨48≤c∧c≤57:=by
 intro c hc
 cases i with
 | ofNat m=>exact .inr (zcL m c hc)
 | negSucc m =>
   rw [zeI] at hc;rcases List.mem_cons.mp hc with z | z
   ·exact .inl z
   ·exact .inr (zcL _ c z)
theorem zlW (i:Int):32∉(tS i).cps.toList:=fun z=>by
 have:=ziU i 32 z;omega
theorem zh0 {m:Nat} (h:m < 10 ^ 40):(Str.ofString (toString ((m:Nat):Int))).length≤40:=PyProof.Rows.toString_length_le (by omega) (by decide) (by exact_mod_cast h)
theorem za8 {i:Int} (h:i.natAbs < 10 ^ 40):(tS i).length≤41:=by
 cases i with
 | ofNat m=>exact Nat.le_succ_of_le (zh0 h)
 | negSucc m =>
   rw [← zbd,zeI,List.length_cons,zbd];have:=zh0 (m:=m+1) h;omega
theorem ziV {i:Int} (h:i.natAbs < 10 ^ 40):PySem.intText? (tS i)=some i:=by
 have hl:=za8 h
 cases i with
 | ofNat m =>
   have e:=PySem.intText_digits (x:=tS (Int.ofNat m)) (fun c hc=>zcL m c hc) (zjl m) (by omega);rw [e];show some ((PySem.NumText.digitsVal (Str.ofString (toString ((m:Nat):Int))).cps.toList:Nat):Int)=_;rw [PySem.W.KIN.signs_num,PySem.W.KIN.val_back];rfl
 | negSucc m =>
   have e:=PySem.intText_neg (x:=tS (Int.negSucc m)) (zeI m) (fun c hc=>zcL (m+1) c hc) (zjl (m+1)) (by omega);rw [e,PySem.W.KIN.signs_num,PySem.W.KIN.val_back];rfl
theorem zh1 {i:Int} (h:i.natAbs < 10 ^ 40):i.natAbs.log2 < 1920:=by
 have h2:i.natAbs < 2 ^ 200:=Nat.lt_trans h (by decide)
 by_cases z:i.natAbs=0
 ·rw [z];decide
 ·exact Nat.lt_trans ((Nat.log2_lt z).mpr h2) (by decide)
end L2
namespace L2
open PySem PySem.Spec PyProof.Rows
section
variable {X:Cx} {K:PySem.W.Frag}
theorem vals_strs:∀ {xs:List Str} {its:List Value},Vals (xs.map V.str) its→∃ l:List (Str×Tok),its=strValues l∧l.map (·.1)=xs
 | [],_,.nil=>⟨[],rfl,rfl⟩
 | x::xs,_,.cons r rs=>by
   obtain ⟨t,rfl⟩:=r;obtain ⟨l,rfl,e⟩:=vals_strs rs;exact ⟨(x,t)::l,rfl,by rw [List.map_cons,e]⟩
theorem strs_vals:∀ (l:List (Str×Tok)),Vals ((l.map (·.1)).map V.str) (strValues l)
 | []=>.nil
 | (x,t)::l=>.cons ⟨t,rfl⟩ (strs_vals l)
def rSplit:V→List V→Hp→VK→Prop:=fun x ys H Q=>∃ a b,x=.str a∧ys=[.str b]∧(b.length == 0)=false∧a.length+2≤sizeLine∧∀ l,H l=none→Q (.ref l) (upd H l (.lst ((Txt.split a b).map V.str)))
theorem zh2 {x y:Str}:(Txt.split x y).length≤x.length+2:=by
 unfold Txt.split;split
 ·simp
 ·split
  ·simp
  ·have e1:=StrLaws.occ_length_le x y 0 x.length (x.length+1);rw [length_partsBetween];omega
theorem mt_split:MtR X "str.split" rSplit:=by
 intro pins s σ H x ys v us Q I rx rv h;obtain ⟨a,b,rfl,rfl,hb,hz,q⟩:=h;obtain ⟨t,rfl⟩:=rx;obtain ⟨u,rfl,t',rfl⟩:=vals1 rv;have hf:H s.heap.objs.size=none:=I.hok.fresh (Nat.le_refl _);have go:∀ (l:List (Str×Tok)) (k:Nat),l.map (·.1)=Txt.split a b→EP X pins σ Q (.ref s.heap.objs.size) { s with toks:=k,heap:=s.heap.push { cls:=.type "list",data:=.seq (strValues l).toArray } }:=fun l k e=>by
  refine ⟨.ref s.heap.objs.size,upd H s.heap.objs.size (.lst ((Txt.split a b).map V.str)),I.laid (t':=k) (fun b u e=>Heap.get?_push_of_some _ e) (Nat.le_refl _) ?_,rfl,q _ hf⟩;have:=zh2 (x:=a) (y:=b);exact ⟨by rw [List.length_map];omega,strValues l,0,e▸strs_vals l,Heap.get?_push_size _ rfl⟩
 have hn:(Builtin.Str.partsBetween a (Builtin.Str.occurrences a b 0 a.length (a.length+1)) b.length).length≤sizeLine:=by
  have e1:=StrLaws.occ_length_le a b 0 a.length (a.length+1);rw [length_partsBetween];omega
 cases h1:(decide (a.length < b.length) || decide (Builtin.Str.strKind a < Builtin.Str.strKind b))
 ·cases hf':(Builtin.Str.occurrences a b 0 a.length (a.length+1)).isEmpty
  ·refine call_meets F.slot_str_split (typeIs_str _ _ _) F.entry_str_split (F.args_str_split_2 _ _) (meets_str_split_sep a b t t' h1 hb hf' (by omega) hn) ?_;rw [strsFrom_eq];exact go (numbered s.toks _) _ ((numbered_texts _ _).trans ((if_neg (ne_true_of_eq_false h1)).trans (if_neg (ne_true_of_eq_false hf'))).symm)
  ·exact call_meets F.slot_str_split (typeIs_str _ _ _) F.entry_str_split (F.args_str_split_2 _ _) (meets_str_split_not_found a b t t' h1 hb hf') (go [(a,t)] s.toks ((if_neg (ne_true_of_eq_false h1)).trans (if_pos hf')).symm)
 ·exact call_meets F.slot_str_split (typeIs_str _ _ _) F.entry_str_split (F.args_str_split_2 _ _) (meets_str_split_cannot_occur a b t t' h1) (go [(a,t)] s.toks (if_pos h1).symm)
def zli (K:PySem.W.Frag):V→List V→Hp→VK→Prop:=fun x ys H Q=>∃ sep a xs,x=.str sep∧ys=[.ref a]∧SqL K H a (xs.map V.str)∧Builtin.Str.tooLong (xs.toArray.foldl (· + ·.length+sep.length) 0)=false∧(Builtin.Str.glued sep xs).length≤sizeLine∧Q (.str (Builtin.Str.glued sep xs)) H
theorem zeJ (hK:X.K=K):MtR X "str.join" (zli K):=by
 subst hK;intro pins s σ H x ys v us Q I rx rv h;obtain ⟨sep,a,xs,rfl,rfl,hl,hz,hz2,q⟩:=h;obtain ⟨t,rfl⟩:=rx;obtain ⟨u,rfl,ru⟩:=rv.one
 cases ru
 obtain ⟨its,r,p,z⟩:=I.list hl;obtain ⟨l,rfl,e⟩:=vals_strs r;subst e;refine call_meets F.slot_str_join (typeIs_str _ _ _) F.entry_str_join (F.args_str_join_2 _ _) (meets_str_join_list sep t a l hz) ⟨p.isList,?_⟩
 match l with
 | []=>exact ⟨hz2,.str _,H,I.tok _,⟨_,rfl⟩,q⟩
 | [(y,ty)]=>exact ⟨.str _,H,I,⟨_,rfl⟩,q⟩
 | p1::p2::l=>exact ⟨hz2,.str _,H,I.tok _,⟨_,rfl⟩,q⟩
def PJ (X:Cx) (ps:List Expr) (t:Str→TE):Prop:=∀ (acc:Str) (pins:List (Addr×Obj)) (s:Shared) (σ:St) (H:Hp) (Q:VK),Inv X pins σ H s→t acc σ H Q→wpAny (model X.prog X.w) X.A (joinParts acc (evalEach ps X.env)) (EP X pins σ Q) X.xe s
def tJN:Str→TE:=fun acc _ H Q=>acc.length≤sizeLine∧Q (.str acc) H
def tJL (y:Str) (t:Str→TE):Str→TE:=fun acc σ H Q=>(acc++y).length≤sizeLine∧t (acc++y) σ H Q
def tJE (te:TE) (t:Str→TE):Str→TE:=fun acc σ H Q=>te σ H fun x H1=>∃ y:Str,((∃ i,x=.int i∧i.natAbs.log2 < 1920∧y=toString i)∨(x=.str y∧y.length≤sizeLine))∧(acc++y).length≤sizeLine∧t (acc++y) σ H1 Q
theorem pj_nil:PJ X [] tJN:=fun acc pins s σ H Q I h=>joinParts_nil ⟨.str acc,H,I.tok _,⟨_,rfl⟩,h.2⟩ h.1
theorem zbU {y:Str} {j pos} {ps:List Expr} {t:Str→TE} (h:PJ X ps t):PJ X (.Constant (.str y) j pos::ps) (tJL y t):=fun acc pins s σ H Q I hq=>by
 show wpAny _ _ (joinParts acc (eval (.Constant (.str y) j pos) X.env::evalEach ps X.env)) _ _ _;refine joinParts_cons (Calls.Constant_str ?_);exact ⟨hq.1,h _ pins _ σ H Q (I.tok _) hq.2⟩
theorem zbV {e:Expr} {te:TE} {pos:Pos} {ps:List Expr} {t:Str→TE} (he:PE X e te) (h:PJ X ps t):PJ X (.FormattedValue e (-1) none pos::ps) (tJE te t):=fun acc pins s σ H Q I hq=>by
 show wpAny _ _ (joinParts acc (eval (.FormattedValue e (-1) none pos) X.env::evalEach ps X.env)) _ _ _;refine joinParts_cons (FormattedValue_plain (thn (he pins s σ H _ I hq) fun u s1 ⟨x,H1,I1,r,y,hx,hz,q⟩=>?_));rcases hx with ⟨i,rfl,hi,rfl⟩ | ⟨rfl,hy⟩
 ·obtain ⟨t',rfl⟩:=r;exact formatField_int_small hi ⟨hz,h _ pins _ σ H1 Q (I1.tok _) q⟩
 ·obtain ⟨t',rfl⟩:=r;exact formatField_str (fun t'' tk=>⟨hz,h _ pins _ σ H1 Q (I1.tok _) q⟩) hy
def tFS (t:Str→TE):TE:=fun σ H Q=>t Str.empty σ H Q
theorem zc4 {a b:Expr} {ps:List Expr} {pos:Pos} {t:Str→TE} (h:PJ X (a::b::ps) t):PE X (.JoinedStr (a::b::ps) pos) (tFS t):=fun pins s σ H Q I hq=>JoinedStr_many (h Str.empty pins s σ H Q I hq)
def zlj (K:PySem.W.Frag):List V→Hp→VK→Prop:=fun xs H Q=>∃ x n,xs=[.str x]∧PySem.intText? x=some n∧x.length≤640∧Q (.int n) H
theorem call_int2K:zck X (.type "int") (zlj K):=by
 intro pins s σ H xs us Q I r h;obtain ⟨x,n,rfl,hn,hl,q⟩:=h;obtain ⟨u,rfl,t,rfl⟩:=vals1 r;exact PySem.W.KIN.call_text hn hl ⟨.int n,H,I.tok _,⟨_,rfl⟩,q⟩
def cStr (K:PySem.W.Frag):List V→Hp→VK→Prop:=fun xs H Q=>∃ i,xs=[.int i]∧i.natAbs.log2 < 1920∧Q (.str (toString i)) H
theorem zaS (h:X.K=K):zck X (.type "str") (cStr K):=call_str_int
inductive LitP:List (Option Expr)→List Expr→List (Str×Str)→Prop where
 | nil:LitP [] [] []
 | cons {a b:Str} {j j' p p' ks vs l} (r:LitP ks vs l):LitP (some (.Constant (.str a) j p)::ks) (.Constant (.str b) j' p'::vs) ((a,b)::l)
abbrev litK (l:List (Str×Str)):List (Key×V):=l.map fun x=>(Sum.inr x.1,V.str x.2)
def zlk (l:List (Str×Str)):TE:=fun _ H Q=>∀ p,H p=none→Q (.ref p) (upd H p (.dK (litK l)))
theorem LitP.all {ks:List (Option Expr)} {vs:List Expr} {l:List (Str×Str)} (L:LitP ks vs l):ks.all (·.isSome)=true∧ks.length=vs.length∧ks.length=l.length:=by
 induction L with
 | nil=>exact ⟨rfl,rfl,rfl⟩
 | cons r ih=>exact ⟨by rw [List.all_cons,ih.1];rfl,by rw [List.length_cons,List.length_cons,ih.2.1],by rw [List.length_cons,List.length_cons,ih.2.2]⟩
theorem ziW {P:Program} {w:World} {A:Around} {E:Value→Shared→Prop} {env:Env} {pos:Pos} {ks:List (Option Expr)} {vs:List Expr} {l:List (Str×Str)} (L:LitP ks vs l):∀ {s:Shared} {Q:List (Value×Value)→Shared→Prop},
  (∀ us kvs tk,Carries (za9 P w) us kvs→KV (litK l) kvs→kvs.map (·.1)=l.map (fun x=>(Sum.inr x.1:Key))→Q us { s with toks:=tk })→wpAny (model P w) A (evalPairs (pairTrees ks vs env pos)) Q E s:=by
 induction L with
 | nil=>exact fun h=>pairTrees_nil_walk (h [] [] _ trivial .nil rfl)
 | @cons a b j j' p p' ks vs l r ih =>
   intro s Q h;refine pairTrees_cons_walk (Calls.Constant_str (Calls.Constant_str (ih fun us kvs tk hc hk hm=>?_)));exact h _ ((Sum.inr a,.str b (s.toks+1))::kvs) tk ⟨zdw P w a _,rfl,hc⟩ (.cons ⟨rfl,_,rfl⟩ hk) (by rw [List.map_cons,List.map_cons,hm])
theorem zkc {ks:List (Option Expr)} {vs:List Expr} {l:List (Str×Str)} {pos:Pos} (L:LitP ks vs l) (h0:l≠[]) (hlen:l.length≤15) (nd:(l.map fun x=>(Sum.inr x.1:Key)).Nodup):PE X (.Dict ks vs pos) (zlk l):=by
 intro pins s σ H Q I h;obtain ⟨a1,a2,a3⟩:=L.all;refine wpAny_Dict_walk (knd:=za9 X.prog X.w) a1 a2 (fun z=>h0 (List.length_eq_zero_iff.mp (by rw [← a3,z];rfl))) (by omega) (ziW L fun us kvs tk hc hk hm=>⟨kvs,hc,Heap.DictOf.new s.heap,fun h' dd hs=>?_⟩);have hf:H s.heap.objs.size=none:=I.hok.fresh (Nat.le_refl _);rw [merged_nil_of_nodup kvs (by rw [hm];exact nd)] at dd;refine ⟨.ref s.heap.objs.size,upd H s.heap.objs.size (.dK (litK l)),I.laid (t':=tk+us.length) (fun b u e=>(hs.2 b (Nat.ne_of_lt (Heap.lt_size e))).trans (Heap.get?_push_of_some _ e)) (Nat.le_refl _) ?_,rfl,h _ hf⟩;exact ⟨by rw [List.length_map,sizeLine_eq];omega,beq_eq_false_iff_ne.mpr (Ne.symm (Nat.ne_of_lt I.big)),kvs,hk,dd⟩
theorem zll {l:List (Str×Str)} {σ:St} {H:Hp} {Q:VK} (h:∀ p H2,H p=none→Same H H2→H2 p=some (.dK (litK l))→Q (.ref p) H2):zlk l σ H Q:=fun p hp=>h p _ hp (zaC hp) zaq
theorem zgS {H:Hp} {Q:VK} {a:Addr} {x:Str} {v:V} {kvs:List (Key×V)} (h:H a=some (.dK kvs)) (e:valV kvs (Sum.inr x:Key)=some v) (q:Q v H):zgl (.ref a) (.str x) H Q:=⟨a,v,rfl,e▸DGet.k (k:=Sum.inr x) h,q⟩
theorem zgT {x y:Str} {H:Hp} {Q:VK} (hb:(y.length == 0)=false) (hz:x.length+2≤sizeLine) (q:∀ l H2,H l=none→Same H H2→H2 l=some (.lst ((Txt.split x y).map V.str))→Q (.ref l) H2):rSplit (.str x) [.str y] H Q:=⟨x,y,rfl,rfl,hb,hz,fun l hl=>q l _ hl (zaC hl) zaq⟩
theorem zdG {sep:Str} {a:Addr} {xs:List Str} {H:Hp} {Q:VK} (h:SqL K H a (xs.map V.str)) (hz:Builtin.Str.tooLong (xs.toArray.foldl (· + ·.length+sep.length) 0)=false) (hz2:(Builtin.Str.glued sep xs).length≤sizeLine) (q:Q (.str (Builtin.Str.glued sep xs)) H):zli K (.str sep) [.ref a] H Q:=⟨sep,a,xs,rfl,rfl,h,hz,hz2,q⟩
theorem r_fs {t:Str→TE} {σ:St} {H:Hp} {Q:VK} (h:t Str.empty σ H Q):tFS t σ H Q:=h
theorem r_jn {acc:Str} {σ:St} {H:Hp} {Q:VK} (hz:acc.length≤sizeLine) (h:Q (.str acc) H):tJN acc σ H Q:=⟨hz,h⟩
theorem r_jl {y acc:Str} {t:Str→TE} {σ:St} {H:Hp} {Q:VK} (hz:(acc++y).length≤sizeLine) (h:t (acc++y) σ H Q):tJL y t acc σ H Q:=⟨hz,h⟩
def zlm (acc:Str) (t:Str→TE) (σ:St) (x:V) (H1:Hp) (Q:VK):Prop:=∃ y:Str,((∃ i,x=.int i∧i.natAbs.log2 < 1920∧y=toString i)∨(x=.str y∧y.length≤sizeLine))∧(acc++y).length≤sizeLine∧t (acc++y) σ H1 Q
theorem r_je {te:TE} {acc:Str} {t:Str→TE} {σ:St} {H:Hp} {Q:VK} (h:te σ H fun x H1=>zlm acc t σ x H1 Q):tJE te t acc σ H Q:=h
theorem zh3 {acc:Str} {t:Str→TE} {σ:St} {i:Int} {H1:Hp} {Q:VK} (hi:i.natAbs.log2 < 1920) (hz:(acc++(toString i:Str)).length≤sizeLine) (h:t (acc++(toString i:Str)) σ H1 Q):zlm acc t σ (.int i) H1 Q:=⟨_,.inl ⟨i,rfl,hi,rfl⟩,hz,h⟩
end
end L2
namespace L2
open PySem PySem.Spec PyProof.Rows
section
variable {σ:St} {H Hr:Hp} {Q:VK} {K:PySem.W.Frag} {js:List Nat} {te:TE} {J:It} {n k:Nat} {g:TG} {w:Nat→St} {x:Nat→V}
theorem ziX (T:zcl J n k js σ g w Hr) (hz:n≤1000) (Wp:Nat→Addr→List V→Hp→Prop)
  (h0:∀ p H1,H p=none→Same H H1→H1 p=some (.lst [])→Wp 0 p [] H1) (hr:∀ i p ys H',Wp i p ys H'→Same Hr H') (hs:∀ i p ys H1 H2,Wp i p ys H1→Same H1 H2→Wp i p ys H2)
  (he:∀ p ys i H' Q',i < n→H' p=some (.lst ys)→ys.length=i→Wp i p ys H'→(∀ v H2,H2 p=some (.lst ys)→(∀ H3,But p H2 H3→H3 p=some (.lst (ys++[v]))→Wp (i+1) p (ys++[v]) H3)→Q' v H2)→te (w i++capV js σ) H' Q')
  (hq:∀ p vs H2,H2 p=some (.lst vs)→vs.length=n→Wp n p vs H2→Q (.ref p) H2):zfP J k js g tTT te σ H Q:=by
 intro p hp;refine ⟨fun i m σc H'=>m=n-i∧i≤n∧(∃ u:St,u.length=k∧σc=u++capV js σ)∧∃ vs:List V,vs.length=i∧H' p=some (.lst vs)∧Wp i p vs H',⟨n,by simp,Nat.zero_le _,⟨List.replicate k none,List.length_replicate,rfl⟩,[],rfl,zaq,h0 p _ hp (zaC hp) zaq⟩,?_⟩;rintro i m σc H' ⟨rfl,hi,⟨u,hu,rfl⟩,vs,hvl,hpp,hW⟩;have hsl:n < sizeLine:=zaH hz;have s:=hr _ _ _ _ hW
 by_cases hlt:i < n
 ·refine .inr ⟨T.go i _ s hlt,fun σ' H'=>(∃ u:St,u.length=k∧σ'=u++capV js σ)∧∃ vs:List V,vs.length=i+1∧H' p=some (.lst vs)∧Wp (i+1) p vs H',fun σ' H' ⟨h1,h3⟩=>⟨n-(i+1),by omega,rfl,hlt,h1,h3⟩,fun v H2 hy=>?_⟩;refine T.yld i H' v H2 u _ s hlt hu hy fun H3 s3=>?_;refine r_tt ?_;rw [if_pos rfl];have hpp3:=s3 _ _ hpp;refine he p vs i _ _ hlt hpp3 hvl (hs _ _ _ _ _ hW s3) fun v H5 hp5 hv=>?_;exact ⟨vs,hp5,by omega,⟨w i,T.len i,rfl⟩,vs++[v],by rw [List.length_append,hvl];rfl,zaq,hv _ But.upd zaq⟩
 ·have e:i=n:=by omega
  subst e;exact .inl ⟨T.stop _ s,hq p vs _ hpp hvl hW⟩
end
theorem zjm {K:PySem.W.Frag} {H:Hp} {Q:VK} {a b:Str} (q:Q (.bl (!decide (a=b))) H):rNe2 K (.str a) (.str b) H Q:=by
 refine .inl ⟨rfl,?_⟩;have:(!decide (V.str a=V.str b)) = !decide (a=b):=by
  congr 1
  exact decide_eq_decide.mpr ⟨fun z=>V.str.inj z,fun z=>by rw [z]⟩
 rw [this];exact q
end L2
namespace Prf
open PySem PySem.Spec PyProof.Rows L2
def rowT:List Str→Str
 | []=>"none"
 | p::ps=>Builtin.Str.glued " " (p::ps)
def opnT (n:Int):Str:=(Str.empty++tS n)++":open"
theorem zkd (xs:List Str) (k m:Nat):∀ acc,(∀ x∈xs,x.length≤m)→xs.foldl (fun a x=>a+x.length+k) acc≤acc+xs.length * (m+k):=by
 induction xs with
 | nil=>intro acc _;simp
 | cons x xs ih =>
   intro acc h;have h1:=ih (acc+x.length+k) fun y hy=>h y (List.mem_cons_of_mem _ hy);have h2:=h x (by simp);rw [List.foldl_cons,List.length_cons,Nat.add_mul];omega
theorem zke (xs:List Str) (m:Nat) (h:∀ x∈xs,x.length≤m):(xs.map (·.length)).sum≤xs.length * m:=by
 induction xs with
 | nil=>simp
 | cons x xs ih =>
   have h1:=ih fun y hy=>h y (List.mem_cons_of_mem _ hy);have h2:=h x (by simp);rw [List.map_cons,List.sum_cons,List.length_cons,Nat.add_mul];omega
theorem len_sp:(Str.ofString " ").length=1:=by decide +kernel
theorem zbM {xs:List Str} (h:∀ x∈xs,x.length≤1000) (hl:xs.length≤1000):Builtin.Str.tooLong (xs.toArray.foldl (· + ·.length+(Str.ofString " ").length) 0)=false∧(Builtin.Str.glued " " xs).length≤sizeLine:=by
 have e1:xs.length * (1000+(Str.ofString " ").length)≤1000 * 1001:=by rw [len_sp];exact Nat.mul_le_mul_right _ hl
 constructor
 ·unfold Builtin.Str.tooLong;rw [decide_eq_false];rw [List.foldl_toArray];have:=zkd xs (Str.ofString " ").length 1000 0 h;rw [sizeLine_eq];omega
 ·rw [size_glued,len_sp,sizeLine_eq];have:=zke xs 1000 h;have:xs.length * 1000≤1000 * 1000:=Nat.mul_le_mul_right _ hl;omega
def RowT (x:Str) (ws:List Str):Prop:=ws≠[]∧(∀ w∈ws,32∉w.cps.toList)∧x.cps.toList=zfj 32 (ws.map (·.cps.toList))∧1≤x.length∧x.length≤1000
theorem RowT.split {x:Str} {ws:List Str} (h:RowT x ws):Txt.split x (Str.ofString " ")=ws:=ziT h.1 h.2.1 h.2.2.1 h.2.2.2.1
theorem RowT.one {x:Str} (h1:32∉x.cps.toList) (h2:1≤x.length) (h3:x.length≤1000):RowT x [x]:=⟨by simp,fun w hw=>by rw [List.mem_singleton.mp hw];exact h1,rfl,h2,h3⟩
theorem zaU (a b:Str):(a++b).length=a.length+b.length:=strLen_append a b
theorem RowT.num {x y:Str} {ws:List Str} {i:Int} (h:RowT x ws) (hy:y.cps.toList=[32]) (hi:i.natAbs < 10 ^ 40) (hl:x.length≤900):RowT ((x++y)++tS i) (ws++[tS i]):=by
 obtain ⟨h0,h1,h2,h3,h4⟩:=h;have hyl:y.length=1:=by rw [← L2.zbd,hy];rfl
 have ht:=za8 hi;refine ⟨by simp,fun w hw=>?_,?_,?_,?_⟩
 ·rcases List.mem_append.mp hw with z | z
  ·exact h1 w z
  ·rw [List.mem_singleton.mp z];exact zlW i
 ·rw [app_list,app_list,h2,hy,List.map_append,List.append_assoc];clear h1 h2 h3 h4
  induction ws with
  | nil=>exact absurd rfl h0
  | cons w r ih =>
    cases r with
    | nil=>rfl
    | cons w2 r =>
      have:=ih (by simp);show (w.cps.toList++32::zfj 32 ((w2::r).map (·.cps.toList)))++([32]++_)=w.cps.toList++32::zfj 32 (((w2::r).map (·.cps.toList))++[_]);rw [List.append_assoc,List.cons_append,this];rfl
 ·rw [zaU,zaU];omega
 ·rw [zaU,zaU];omega
inductive Qn where | left | marks | due | dealing | against
def Qn.word:Qn→Str
 | .left=>"left"
 | .marks=>"marks"
 | .due=>"due"
 | .dealing=>"dealing"
 | .against=>"against"
def _root_.L2.Rf.say:Rf→Str
 | .time=>"refused: out of time"
 | .unknown=>"refused: unknown number"
 | .notdue=>"refused: not due"
 | .bounds=>"refused: out of bounds"
 | .full=>"refused: full"
inductive Act where
 | bring (d:Dd)
 | deal
 | enter (k r p:Int)
 | ask (q:Qn)
def Dd.word:Dd→Str
 | .paper _=>"paper"
 | .reader _ _=>"reader"
 | .step _=>"step"
def Dd.nums:Dd→List Int
 | .paper h=>[h]
 | .reader h l=>[h,l]
 | .step s=>[s]
def Act.words:Act→List Str
 | .bring d=>d.word::d.nums.map tS
 | .deal=>["deal"]
 | .enter k r p=>"enter"::[k,r,p].map tS
 | .ask q=>[q.word]
def zdH (st:ExS):Prop:=st.hs=[]∨st.rs.length < 2
def Act.ok (st:ExS):Act→Prop
 | .bring d=>∀ i∈d.nums,i.natAbs < 10 ^ 40
 | .deal=>zdH st
 | .enter k r p=>∀ i∈[k,r,p],i.natAbs < 10 ^ 40
 | .ask .against=>zdH st
 | .ask _=>True
def Qn.ans (st:ExS):Qn→Str
 | .left=>rowT (st.rs.map fun r=>tS (r.getD 1 0))
 | .marks=>rowT ((List.range st.hs.length).map fun i:Nat=>opnT ((i:Int)+1))
 | .due=>"none"
 | .dealing=>if st.dl.isSome=true then "none" else "not dealt"
 | .against=>if st.hs=[] then "none" else "1"
def Act.next (st:ExS):Act→ExS
 | .bring d=>if d.why st=none then d.done st else st
 | .deal=>if st.dl.isSome=true then st else if st.hs=[] then { st with dl:=some ([],[]) } else st
 | .enter _ _ _=>st
 | .ask _=>st
def whyA (st:ExS):Rf:=if st.dl.isSome=true then .unknown else .time
def Act.ans (st:ExS):Act→Str
 | .bring d=>(d.why st).elim (tS (d.ans st)) Rf.say
 | .deal=>if st.dl.isSome=true then Rf.say .time else if st.hs=[] then "dealt" else "no dealing"
 | .enter _ _ _=>Rf.say (whyA st)
 | .ask q=>q.ans st
structure D31 (st:ExS):Prop where
 inb:InB st.hs st.rs
 dl:st.dl=none∨st.dl=some ([],[])∧st.hs=[]
theorem D31.nm {st:ExS} (h:D31 st):st.nm=[]:=by
 unfold ExS.nm;rcases h.dl with z | z
 ·rw [z];rfl
 ·rw [z.1];rfl
theorem zh4 (st:ExS) (d:Dd):(d.done st).dl=st.dl:=by cases d <;> rfl
theorem ziY {st:ExS} {d:Dd} (h:d.why st=none):st.dl=none:=by
 refine zeH fun z=>?_
 cases d with
 | paper h'=>have h:whyP st h'=none:=h;unfold whyP at h;rw [if_pos z] at h;cases h
 | reader h' l'=>have h:whyR st h' l'=none:=h;unfold whyR at h;rw [if_pos z] at h;cases h
 | step s=>have h:whyS st s=none:=h;unfold whyS at h;rw [if_pos z] at h;cases h
theorem D31.next {st:ExS} (h:D31 st) (a:Act):D31 (a.next st):=by
 cases a with
 | bring d =>
   show D31 (if d.why st=none then d.done st else st);split
   next hw=>exact ⟨Dd.inb h.inb hw,.inl (by rw [zh4];exact ziY hw)⟩
   next=>exact h
 | deal =>
   show D31 (if st.dl.isSome=true then st else if st.hs=[] then { st with dl:=some ([],[]) } else st);split
   next=>exact h
   next =>
    split
    next he=>exact ⟨h.inb,.inr ⟨rfl,he⟩⟩
    next=>exact h
 | enter k r p=>exact h
 | ask q=>exact h
theorem zgo {hs:List Int} {rs:List (List Int)} (h0:hs≠[]) (h:rs.length < 2):za1 hs rs none:=fun rows=>by
 rw [Bool.eq_false_iff];intro z;have RP:=zfa.mp z;have hl:0 < hs.length:=List.length_pos_iff.mpr h0;have h1:=RP.lo 0 hl;have h2:=RP.lt 0 hl;have h3:=RP.hi 0 hl;omega
theorem zfl {rs:List (List Int)} (B:InB [] rs):za1 [] rs (some []):=by
 refine ⟨zdE.mpr ⟨rfl,fun k hk=>absurd hk (by simp),fun k hk=>?_⟩,fun rows _=>rfl⟩;have:=(B.rl k hk).1;show ((0:Nat):Int)≤_;omega
end Prf
namespace L2
open PySem PySem.Spec PyProof.Rows
section
variable {σ:St} {H:Hp} {Q:VK} {K:PySem.W.Frag}
theorem len_emp:(Str.empty).length=0:=rfl
theorem ll_paper:(Str.ofString "paper ").length=6:=by decide +kernel
theorem ll_reader:(Str.ofString "reader ").length=7:=by decide +kernel
theorem ll_step:(Str.ofString "step ").length=5:=by decide +kernel
theorem ll_enter:(Str.ofString "enter ").length=6:=by decide +kernel
theorem ll_open:(Str.ofString ":open").length=5:=by decide +kernel
theorem ll_sp:(Str.ofString " ").length=1:=by decide +kernel
theorem zbz {i:Int} (h:i.natAbs < 10 ^ 40) (q:Q (.str (tS i)) H):cStr K [.int i] H Q:=⟨i,rfl,zh1 h,q⟩
theorem zc5 {a b:Str} (hz:a.length+b.length≤sizeLine) (q:Q (.str (a++b)) H):rAddG (.str a) (.str b) H Q:=.inr (.inr ⟨a,b,rfl,rfl,hz,q⟩)
theorem zjn {a:Str} {P:Prop} (h:P):tyV K "str" (.str a) H∧P:=⟨rfl,h⟩
theorem zln {i:Int} (h:i.natAbs < 10 ^ 40) (q:Q (.int i) H):zlj K [.str (tS i)] H Q:=⟨_,i,rfl,ziV h,by have:=za8 h;omega,q⟩
end
end L2
namespace Prf
open PySem PySem.Spec PyProof.Rows L2
theorem zh5 {n:Int} (h:n.natAbs < 10 ^ 40):(opnT n).length≤100:=by
 have:=za8 h;unfold opnT;rw [zaU,zaU,len_emp,ll_open];omega
def Act.ref (st:ExS):Act→Option Rf
 | .bring d=>d.why st
 | .deal=>whyD st
 | .enter _ _ _=>some (whyA st)
 | .ask _=>none
theorem Act.ans_ref {st:ExS} {a:Act} {f:Rf} (h:a.ref st=some f):a.ans st=f.say∧a.next st=st:=by
 cases a with
 | bring d =>
   have h:d.why st=some f:=h;refine ⟨?_,?_⟩
   ·show (d.why st).elim _ _=_;rw [h];rfl
   ·show (if d.why st=none then d.done st else st)=st;rw [h,if_neg (by simp)]
 | deal =>
   have h:whyD st=some f:=h;unfold whyD at h
   by_cases c:st.dl.isSome=true
   ·rw [if_pos c] at h
    cases h
    exact ⟨by show (if _ then _ else _)=_;rw [if_pos c],by show (if _ then _ else _)=_;rw [if_pos c]⟩
   ·rw [if_neg c] at h;cases h
 | enter k r p =>
   have h:some (whyA st)=some f:=h
   cases h
   exact ⟨rfl,rfl⟩
 | ask q=>cases h
def stA (as:List Act) (i:Nat):ExS:=(as.take i).foldl (fun s a=>a.next s) ⟨[],[],0,none⟩
structure RunL (l:List (Str×Str)) (as:List Act):Prop where
 len:as.length=l.length
 row:∀ i,i < l.length→RowT (l.getD i ("","")).1 (as.getD i .deal).words
 ok:∀ i,i < l.length→(as.getD i .deal).ok (stA as i)
 ans:∀ i,i < l.length→(l.getD i ("","")).2=(as.getD i .deal).ans (stA as i)
theorem RunL.nil:RunL [] []:=⟨rfl,fun i h=>absurd h (by simp),fun i h=>absurd h (by simp),fun i h=>absurd h (by simp)⟩
theorem zfm {as:List Act} {a:Act} {i:Nat} (h:i≤as.length):stA (as++[a]) i=stA as i:=by
 unfold stA;rw [List.take_append_of_le_length h]
theorem zgp {as:List Act} {i:Nat} (h:i < as.length):stA as (i+1)=(as.getD i .deal).next (stA as i):=by
 unfold stA;rw [List.take_add_one,List.foldl_append,List.getD_eq_getElem?_getD,List.getElem?_eq_getElem h];rfl
theorem zcw {as:List Act} {a:Act}:stA (as++[a]) (as.length+1)=a.next (stA as as.length):=by
 rw [zgp (by rw [List.length_append];simp),zas,zfm (Nat.le_refl _)]
theorem RunL.push {l:List (Str×Str)} {as:List Act} {t:Str} {a:Act} (R:RunL l as) (h1:RowT t a.words) (h2:a.ok (stA as as.length)):RunL (l++[(t,a.ans (stA as as.length))]) (as++[a]):=by
 have hl:=R.len;have cut:∀ i,i < (l++[(t,a.ans (stA as as.length))]).length→i < l.length∨i=l.length:=fun i hi=>by
  rw [List.length_append,List.length_singleton] at hi;omega
 refine ⟨by rw [List.length_append,List.length_append,hl];rfl,fun i hi=>?_,fun i hi=>?_,fun i hi=>?_⟩
 ·rcases cut i hi with z | z
  ·rw [zay z,zay (by omega)];exact R.row i z
  ·subst z;rw [zas,← hl,zas];exact h1
 ·rcases cut i hi with z | z
  ·rw [zay (by omega),zfm (by omega)];exact R.ok i z
  ·subst z;rw [← hl,zas,zfm (Nat.le_refl _)];exact h2
 ·rcases cut i hi with z | z
  ·rw [zay z,zay (by omega),zfm (by omega)];exact R.ans i z
  ·subst z;rw [zas,← hl,zas,zfm (Nat.le_refl _)]
theorem D31.at (as:List Act):∀ i,D31 (stA as i):=fun i=>by
 have h0:D31 (⟨[],[],0,none⟩:ExS):=⟨⟨by decide,by decide,fun i h=>absurd h (by simp),fun i h=>absurd h (by simp),fun i h=>absurd h (by simp),fun i h=>absurd h (by simp)⟩,.inl rfl⟩
 unfold stA;generalize as.take i=l;generalize (⟨[],[],0,none⟩:ExS)=s at h0
 induction l generalizing s with
 | nil=>exact h0
 | cons a l ih=>exact ih _ (h0.next a)
theorem zh6 {st:ExS} (D:D31 st):zgO st=st.rs.map fun r=>r.getD 1 0:=by
 unfold zgO zgF;rw [D.nm]
 conv=>rhs;rw [← za4 st.rs []]
 rw [List.map_map];refine List.map_congr_left fun i _=>?_;show (st.rs.getD i []).getD 1 0-((0:Nat):Int)=(st.rs.getD i []).getD 1 0;omega
theorem zlo (hs:List Int) (rs:List (List Int)):zbT hs rs []=0:=by
 unfold zbT
 induction rs with
 | nil=>rfl
 | cons r rs ih=>rw [List.map_cons,List.sum_cons,ih];rfl
theorem ziZ (hs:List Int) (rs:List (List Int)):agB hs rs []=false:=by
 unfold agB;rw [zlo];decide
theorem zjo {hs:List Int} {rs:List (List Int)} (h:rs.length < 2):agB hs rs [1]=true:=by
 unfold agB;refine decide_eq_true ?_;have hk:∀ r:List Int,zbj hs r [1]≤1:=fun r=>by
  unfold zbj zbv;simp only [List.foldl_cons,List.foldl_nil];split <;> omega
 show zbT hs rs [1] < 2 * 1;unfold zbT
 match rs,h with
 | [],_=>exact (by decide:(0:Int) < 2 * 1)
 | [r],_ =>
   have:=hk r;simp only [List.map_cons,List.map_nil,List.sum_cons,List.sum_nil];omega
theorem zh7 {hs:List Int} (h0:hs≠[]):SetM hs.length [1]:=by
 have:=List.length_pos_iff.mpr h0;exact ⟨List.pairwise_singleton _ _,fun x hx=>by rw [List.mem_singleton.mp hx];omega⟩
theorem zfn {st:ExS} (D:D31 st) (hok:zdH st) (hd:st.dl≠none∨zbh st.hs st.rs none):st.hs=[]:=by
 rcases hd with hd | hd
 ·rcases D.dl with z | z
  ·exact absurd z hd
  ·exact z.2
 ·refine Classical.byContradiction fun h0=>?_;have:=hd [1] (zh7 h0);rw [zjo (hok.resolve_left h0)] at this
  cases this
theorem zfV {st:ExS} {xs:List Int} (hd:st.dl=none) (hok:zdH st) (B:InB st.hs st.rs) (FA:zbh st.hs st.rs (some xs)):st.hs≠[]∧xs=[1]:=by
 obtain ⟨h1,h2,h3⟩:=FA;have hx:xs≠[]:=fun z=>by rw [z,ziZ] at h2;cases h2
 have h0:st.hs≠[]:=fun z=>by
  rw [z] at h1
  cases xs with
  | nil=>exact hx rfl
  | cons x r =>
    have:=h1.rng x (by simp);simp at this;omega
 refine ⟨h0,?_⟩;have hc:=h3 [1] (zh7 h0) (zjo (hok.resolve_left h0));unfold zcb at hc
 match xs,hx with
 | [x],_ =>
   have hr:=h1.rng x (by simp);have hc:lexB [1] [x]=false:=hc
   by_cases e:x=1
   ·rw [e]
   ·exfalso;rw [show lexB [1] [x]=(if (1:Int)=x then lexB [] [] else decide (1 < x)) from rfl,if_neg (Ne.symm e)] at hc;have:=of_decide_eq_false hc;omega
 | x::y::r,_ =>
   exfalso;rw [if_neg (by simp;omega)] at hc;simp at hc;omega
end Prf
namespace Prf
open PySem PySem.Spec PyProof.Rows L2
def Act.head:Act→Str
 | .bring d=>d.word
 | .deal=>"deal"
 | .enter _ _ _=>"enter"
 | .ask q=>q.word
def Act.nums:Act→List Int
 | .bring d=>d.nums
 | .enter k r p=>[k,r,p]
 | _=>[]
theorem Act.words_eq (a:Act):a.words=a.head::a.nums.map tS:=by cases a <;> rfl
theorem Act.bnd {a:Act} {st:ExS} (h:a.ok st):∀ i∈a.nums,i.natAbs < 10 ^ 40:=by
 cases a with
 | bring d=>exact h
 | enter k r p=>exact h
 | deal=>exact fun i hi=>absurd hi (by simp [Act.nums])
 | ask q=>exact fun i hi=>absurd hi (by simp [Act.nums])
theorem zbN {st:ExS} {d:Dd} (h:d.why st=none):(Act.bring d).ans st=tS (d.ans st)∧(Act.bring d).next st=d.done st :=
 ⟨by show (d.why st).elim _ _=_;rw [h];rfl,if_pos h⟩
theorem zeK {st:ExS} (h:st.dl=none):(Act.deal.ans st=if st.hs=[] then ("dealt" : Str) else ("no dealing" : Str))∧(Act.deal.next st=if st.hs=[] then { st with dl:=some ([],[]) } else st) :=
 ⟨by show (if _ then _ else _)=_;rw [if_neg (by rw [h];decide)],by show (if _ then _ else _)=_;rw [if_neg (by rw [h];decide)]⟩
theorem zi0 {st:ExS} {rows:List (List Int)} (P:zdH st) (F:za1 st.hs st.rs (some rows)):st.hs=[]∧rows=[]:=by
 obtain ⟨hr,_⟩:zcc st.hs st.rs rows=true∧_:=F;have RP:=zfa.mp hr;have h0:st.hs=[]:=by
  refine Classical.byContradiction fun h0=>?_;have:=zgo h0 (P.resolve_left h0) rows;rw [hr] at this
  cases this
 refine ⟨h0,List.length_eq_zero_iff.mp ?_⟩;rw [RP.len,h0];rfl
theorem zkf {st:ExS} (B:InB st.hs st.rs) (F:za1 st.hs st.rs none):st.hs≠[]:=fun z=>by
 have hb:=B;rw [z] at hb F;have h1:=F [];rw [(zfl hb).1] at h1
 cases h1
theorem zlp {st:ExS} {d:Dd}:d.why st≠some .notdue:=fun h=>by
 cases d with
 | paper h' =>
   have h:whyP st h'=some .notdue:=h;unfold whyP at h;split at h
   ·cases h
   ·split at h
    ·split at h <;> cases h
    ·cases h
 | reader h' l' =>
   have h:whyR st h' l'=some .notdue:=h;unfold whyR at h;split at h
   ·cases h
   ·split at h
    ·split at h
     ·split at h <;> cases h
     ·cases h
    ·cases h
 | step s =>
   have h:whyS st s=some .notdue:=h;unfold whyS at h;split at h
   ·cases h
   ·split at h <;> cases h
theorem zlq {st:ExS} {a:Act}:a.ref st≠some .notdue:=fun h=>by
 cases a with
 | bring d=>exact zlp h
 | deal=>have h:whyD st=some .notdue:=h;unfold whyD at h;split at h <;> cases h
 | enter k r p=>have h:some (whyA st)=some .notdue:=h;unfold whyA at h;split at h <;> cases h
 | ask q=>cases h
theorem ExFr.of_same {H H':Hp} {F:Addr→Prop} (s:Same H H'):ExFr H H' F F:=⟨fun b o e _=>s _ _ e,fun b z=>.inl z⟩
end Prf
namespace Prf
open PySem PySem.Spec PyProof.Rows L2
theorem zh8 {v:V} {vs:List V}:atI (v::vs) 0=some v:=by unfold atI ixN;simp
abbrev qsV:List V:=[.str "dealing",.str "against",.str "due",.str "marks",.str "left"]
theorem zgq {a:Act} (h:∀ q,a≠.ask q):inV (.str a.head) qsV=false:=by
 have k:∀ w:Str,w = "paper"∨w = "reader"∨w = "step"∨w = "deal"∨w = "enter"→inV (.str w) qsV=false:=by
  rintro w (rfl | rfl | rfl | rfl | rfl) <;> decide +kernel
 refine k _ ?_
 cases a with
 | bring d =>
   cases d with
   | paper h=>exact .inl rfl
   | reader h l=>exact .inr (.inl rfl)
   | step s=>exact .inr (.inr (.inl rfl))
 | deal=>exact .inr (.inr (.inr (.inl rfl)))
 | enter k r p=>exact .inr (.inr (.inr (.inr rfl)))
 | ask q=>exact absurd rfl (h q)
theorem zi1 {q:Qn}:inV (.str (Act.ask q).head) qsV=true:=by cases q <;> decide +kernel
theorem zjp {K:PySem.W.Frag} {H:Hp} {Q:VK} {p:Addr} {x:V} {xs:List V} (h:SqT K H p xs) (fx:flatV x=true) (fs:xs.all flatV=true) (q:Q (.bl (inV x xs)) H):rIn2 K false x (.ref p) H Q:=.inl ⟨p,xs,rfl,.inr h,fx,fs,q⟩
end Prf
namespace Prf
open PySem PySem.Spec PyProof.Rows L2
theorem zh9 {v:V} {vs:List V}:cutV (v::vs) (some 1) none=vs:=by
 have h1:HT.sIx (v::vs).length 0 (some 1)=1:=by unfold HT.sIx;simp
 have h2:HT.sIx (v::vs).length (v::vs).length none=vs.length+1:=by unfold HT.sIx;simp
 unfold cutV;rw [h1,h2];simp
theorem zi2 (a:Act):a.nums.length≤1000:=by
 cases a with
 | bring d=>cases d <;> exact Nat.le_of_ble_eq_true rfl
 | deal=>exact Nat.le_of_ble_eq_true rfl
 | enter k r p=>exact Nat.le_of_ble_eq_true rfl
 | ask q=>exact Nat.le_of_ble_eq_true rfl
end Prf
namespace Prf
open PySem PySem.Spec PyProof.Rows L2
def Kp (H:Hp) (F:Addr→Prop) (H':Hp) (F':Addr→Prop):Prop:=∀ c u,H c=some u→¬F c→H' c=some u∧¬F' c
theorem Kp.fr {H H' H2:Hp} {F F' F2:Addr→Prop} (k:Kp H F H' F') (f:ExFr H' H2 F' F2):Kp H F H2 F2:=fun c u e n=>⟨f.kp _ _ (k c u e n).1 (k c u e n).2,fun z=>(f.fp c z).elim (k c u e n).2 fun y=>by rw [(k c u e n).1] at y;cases y⟩
theorem Kp.same {H H' H2:Hp} {F F':Addr→Prop} (k:Kp H F H' F') (s:Same H' H2):Kp H F H2 F':=fun c u e n=>⟨s _ _ (k c u e n).1,(k c u e n).2⟩
theorem zfo {rows:List (Str×Str)} {f:Str×Str→Str} {i:Nat} (h:i < rows.length):(rows.map fun r=>V.str (f r)).getD i .non=V.str (f (rows.getD i ("",""))):=by
 rw [List.getD_eq_getElem?_getD,List.getElem?_map,List.getElem?_eq_getElem h,List.getD_eq_getElem?_getD,List.getElem?_eq_getElem h];rfl
theorem zia {rows:List (Str×Str)} {i:Nat} (h:i < rows.length):(rows.take (i+1)).map (fun r=>V.str r.2)=(rows.take i).map (fun r=>V.str r.2)++[V.str (rows.getD i ("","")).2]:=by
 rw [List.take_add_one,List.map_append,List.getElem?_eq_getElem h,List.getD_eq_getElem?_getD,List.getElem?_eq_getElem h];rfl
end Prf
namespace Prf
open PySem PySem.Spec PyProof.Rows L2
structure Ldg (H:Hp) (a b:Addr) (ps:List Addr) (hs:List Int) (rs:List (List Int)):Prop where
 ha:H a=some (.lst (hs.map V.int))
 hb:H b=some (.lst (ps.map V.ref))
 ne:a≠b
 len:ps.length=rs.length
 row:∀ i,i < rs.length→H (ps.getD i 0)=some (.lst ((rs.getD i []).map V.int))
 out:∀ p∈ps,p≠a∧p≠b
def Fr2 (a b:Addr) (H H':Hp):Prop:=∀ c o,H c=some o→c≠a→c≠b→H' c=some o
section
variable {H H1 H2 H':Hp} {a b r m o:Addr} {ps ms:List Addr} {hs:List Int} {rs:List (List Int)} {h:Int} {row:List Int}
theorem Ldg.same (L:Ldg H a b ps hs rs) (s:Same H H'):Ldg H' a b ps hs rs:=⟨s _ _ L.ha,s _ _ L.hb,L.ne,L.len,fun i hi=>s _ _ (L.row i hi),L.out⟩
theorem Ldg.but (L:Ldg H a b ps hs rs) (b1:But m H H') (hm:m≠a) (hm2:m≠b) (hp:∀ p∈ps,p≠m):Ldg H' a b ps hs rs :=
 ⟨by rw [b1 _ (Ne.symm hm)];exact L.ha,by rw [b1 _ (Ne.symm hm2)];exact L.hb,L.ne,L.len,fun i hi=>by rw [b1 _ (hp _ (getD_mem (by rw [L.len];exact hi)))];exact L.row i hi,L.out⟩
theorem Ldg.paper (L:Ldg H a b ps hs rs) (b1:But a H H1) (e1:H1 a=some (.lst (hs.map V.int++[.int h]))):Ldg H1 a b ps (hs++[h]) rs :=
 ⟨by rw [e1,List.map_append];rfl,by rw [b1 _ L.ne.symm];exact L.hb,L.ne,L.len,fun i hi=>by rw [b1 _ (L.out _ (getD_mem (by rw [L.len];exact hi))).1];exact L.row i hi,L.out⟩
theorem Ldg.reader (L:Ldg H a b ps hs rs) (fr:H r=none) (s1:Same H H1) (e1:H1 r=some (.lst (row.map V.int))) (b2:But b H1 H2) (e2:H2 b=some (.lst (ps.map V.ref++[.ref r]))):Ldg H2 a b (ps++[r]) hs (rs++[row]):=by
 have na:r≠a:=(zaf L.ha fr).symm;have nb:r≠b:=(zaf L.hb fr).symm;refine ⟨by rw [b2 _ L.ne];exact s1 _ _ L.ha,by rw [e2,List.map_append];rfl,L.ne,by rw [List.length_append,List.length_append,L.len];rfl,fun i hi=>?_,fun p hp=>?_⟩
 ·rw [List.length_append,List.length_singleton] at hi
  by_cases c:i < rs.length
  ·rw [zay (by rw [L.len];exact c),zay c,b2 _ (L.out _ (getD_mem (by rw [L.len];exact c))).2];exact s1 _ _ (L.row i c)
  ·have:i=rs.length:=by omega
   subst this;rw [zas,← L.len,zas,b2 _ nb];exact e1
 ·rcases List.mem_append.mp hp with z | z
  ·exact L.out p z
  ·rw [List.mem_singleton.mp z];exact ⟨na,nb⟩
theorem Fr2.refl:Fr2 a b H H:=fun _ _ e _ _=>e
theorem Fr2.same (f:Fr2 a b H H1) (s:Same H1 H2):Fr2 a b H H2:=fun c o e n1 n2=>s _ _ (f c o e n1 n2)
theorem Fr2.of (s:Same H H1):Fr2 a b H H1:=fun c o e _ _=>s _ _ e
theorem Fr2.butA (f:Fr2 a b H H1) (b1:But a H1 H2):Fr2 a b H H2:=fun c o e n1 n2=>by rw [b1 c n1];exact f c o e n1 n2
theorem Fr2.butB (f:Fr2 a b H H1) (b1:But b H1 H2):Fr2 a b H H2:=fun c o e n1 n2=>by rw [b1 c n2];exact f c o e n1 n2
end
structure Acc (H0 H:Hp) (a b m:Addr) (ps ms:List Addr) (l:List (Str×Str)) (as:List Act):Prop where
 same:Same H0 H
 fa:H0 a=none
 fb:H0 b=none
 fm:H0 m=none
 ld:Ldg H a b ps (stA as as.length).hs (stA as as.length).rs
 hm:H m=some (.lst (ms.map V.ref))
 ml:ms.length=l.length
 mr:∀ i,i < l.length→H (ms.getD i 0)=some (.lst [.str (l.getD i ("","")).1,.str (l.getD i ("","")).2])
 mo:∀ p∈ms,p≠a∧p≠b∧p≠m
 pm:∀ p∈ps,p≠m
 ma:m≠a
 mb:m≠b
 run:RunL l as
section
variable {H0 H H1 H2 H':Hp} {a b m o:Addr} {ps ps' ms:List Addr} {l:List (Str×Str)} {as:List Act} {t:Str} {ac:Act}
theorem Acc.grow (A:Acc H0 H a b m ps ms l as) (s:Same H H'):Acc H0 H' a b m ps ms l as :=
 ⟨A.same.trans s,A.fa,A.fb,A.fm,A.ld.same s,s _ _ A.hm,A.ml,fun i hi=>s _ _ (A.mr i hi),A.mo,A.pm,A.ma,A.mb,A.run⟩
theorem Acc.push (A:Acc H0 H a b m ps ms l as) (f:Fr2 a b H H1) (fo:H o=none) (eo:H1 o=some (.lst [.str t,.str (ac.ans (stA as as.length))])) (L:Ldg H1 a b ps' (ac.next (stA as as.length)).hs (ac.next (stA as as.length)).rs) (hps:∀ p∈ps',p∈ps∨H p=none)
  (hr:RowT t ac.words) (hok:ac.ok (stA as as.length)) (b2:But m H1 H2) (e2:H2 m=some (.lst (ms.map V.ref++[.ref o]))):Acc H0 H2 a b m ps' (ms++[o]) (l++[(t,ac.ans (stA as as.length))]) (as++[ac]):=by
 have oa:o≠a:=(zaf A.ld.ha fo).symm;have ob:o≠b:=(zaf A.ld.hb fo).symm;have om:o≠m:=(zaf A.hm fo).symm;have pm':∀ p∈ps',p≠m:=fun p hp=>by
  rcases hps p hp with z | z
  ·exact A.pm p z
  ·exact (zaf A.hm z).symm
 have hst:stA (as++[ac]) (as++[ac]).length=ac.next (stA as as.length):=by rw [List.length_append,List.length_singleton,zcw]
 refine ⟨fun c u e=>?_,A.fa,A.fb,A.fm,by rw [hst];exact L.but b2 A.ma A.mb pm',by rw [e2,List.map_append];rfl,by rw [List.length_append,List.length_append,A.ml];rfl,fun i hi=>?_,fun p hp=>?_,pm',A.ma,A.mb,A.run.push hr hok⟩
 ·rw [b2 c (fun z=>by rw [z,A.fm] at e;cases e)];exact f c u (A.same _ _ e) (fun z=>by rw [z,A.fa] at e;cases e) (fun z=>by rw [z,A.fb] at e;cases e)
 ·rw [List.length_append,List.length_singleton] at hi
  by_cases c:i < l.length
  ·have hmem:=A.mo _ (getD_mem (d:=0) (show i < ms.length by rw [A.ml];exact c));rw [zay (by rw [A.ml];exact c),zay c,b2 _ hmem.2.2];exact f _ _ (A.mr i c) hmem.1 hmem.2.1
  ·have:i=l.length:=by omega
   subst this;rw [zas,← A.ml,zas,b2 _ om];exact eo
 ·rcases List.mem_append.mp hp with z | z
  ·exact A.mo p z
  ·rw [List.mem_singleton.mp z];exact ⟨oa,ob,om⟩
end
theorem zdu {c l m:Int} (h0:0≤c) (h1:c < 10 ^ 30) (l0:0≤l) (l1:l≤1) (m1:m≤100) (hm:l < m):(if c % 5=1 then l-1 else if c % 5=2 then m+1 else if c % 5=3 then c / 5 else l+c / 5 % (if m-l+1 > 1 then m-l+1 else 1):Int).natAbs < 10 ^ 40:=by
 split
 ·omega
 ·split
  ·omega
  ·split
   ·omega
   ·rw [if_pos (by omega)];have:=Int.emod_nonneg (c / 5) (show m-l+1≠0 by omega);have:=Int.emod_lt_of_pos (c / 5) (show 0 < m-l+1 by omega);omega
theorem zfp {h:Int} (hb:h.natAbs < 10 ^ 40):RowT (Str.ofString "paper "++tS h) (Act.bring (.paper h)).words:=by
 have:=RowT.num (x:="paper") (y:=" ") (ws:=["paper"]) (i:=h) (RowT.one (by decide +kernel) (by decide +kernel) (by decide +kernel)) (by decide +kernel) hb (by decide +kernel);rw [show (Str.ofString "paper"++Str.ofString " ")=Str.ofString "paper " by decide +kernel] at this;exact this
theorem zi3 {h:Int} (hb:h.natAbs < 10 ^ 40):RowT (Str.ofString "step "++tS h) (Act.bring (.step h)).words:=by
 have:=RowT.num (x:="step") (y:=" ") (ws:=["step"]) (i:=h) (RowT.one (by decide +kernel) (by decide +kernel) (by decide +kernel)) (by decide +kernel) hb (by decide +kernel);rw [show (Str.ofString "step"++Str.ofString " ")=Str.ofString "step " by decide +kernel] at this;exact this
theorem zel {h l:Int} (hb:h.natAbs < 10 ^ 40) (hl:l.natAbs < 10 ^ 40):RowT (((Str.ofString "reader "++tS h)++" ")++tS l) (Act.bring (.reader h l)).words:=by
 have h1:=RowT.num (x:="reader") (y:=" ") (ws:=["reader"]) (i:=h) (RowT.one (by decide +kernel) (by decide +kernel) (by decide +kernel)) (by decide +kernel) hb (by decide +kernel);rw [show (Str.ofString "reader"++Str.ofString " ")=Str.ofString "reader " by decide +kernel] at h1;have hz:=za8 hb;exact RowT.num (y:=" ") h1 (by decide +kernel) hl (by rw [zaU,ll_reader];omega)
theorem zib {k r p:Int} (hk:k.natAbs < 10 ^ 40) (hr:r.natAbs < 10 ^ 40) (hp:p.natAbs < 10 ^ 40):RowT (((((Str.ofString "enter "++tS k)++" ")++tS r)++" ")++tS p) (Act.enter k r p).words:=by
 have h1:=RowT.num (x:="enter") (y:=" ") (ws:=["enter"]) (i:=k) (RowT.one (by decide +kernel) (by decide +kernel) (by decide +kernel)) (by decide +kernel) hk (by decide +kernel);rw [show (Str.ofString "enter"++Str.ofString " ")=Str.ofString "enter " by decide +kernel] at h1;have z1:=za8 hk;have z2:=za8 hr;have h2:=RowT.num (y:=" ") h1 (by decide +kernel) hr (by rw [zaU,ll_enter];omega);exact RowT.num (y:=" ") h2 (by decide +kernel) hp (by rw [zaU,zaU,zaU,ll_enter,ll_sp];omega)
theorem zdI (q:Qn):RowT q.word (Act.ask q).words:=by
 cases q <;> exact RowT.one (by decide +kernel) (by decide +kernel) (by decide +kernel)
theorem row_deal:RowT "deal" Act.deal.words:=RowT.one (by decide +kernel) (by decide +kernel) (by decide +kernel)
theorem zfW (x:Str):Str.empty++x=x:=PySem.W.KT.empty_app x
end Prf
namespace Prf
open PySem PySem.Spec PyProof.Rows L2
theorem zic {v:V} {n:Nat}:cutV [v] (some (n:Int)) none=if n=0 then [v] else []:=by
 have h2:HT.sIx [v].length [v].length none=1:=by unfold HT.sIx;simp
 unfold cutV;rw [h2]
 by_cases h:n=0
 ·subst h;have h1:HT.sIx [v].length 0 (some ((0:Nat):Int))=0:=by unfold HT.sIx;simp
  rw [h1,if_pos rfl];rfl
 ·have h1:HT.sIx [v].length 0 (some (n:Int))=1:=by
   rw [HT.sIx_nat];have:1≤n:=Nat.pos_of_ne_zero h;show min n 1=1;omega
  rw [h1,if_neg h];rfl
theorem zfq (xs:List Str):Builtin.Str.glued " " (xs++(if xs.length=0 then [("none" : Str)] else []))=rowT xs:=by
 cases xs with
 | nil=>decide +kernel
 | cons p ps=>rw [if_neg (by simp),List.append_nil];rfl
def qOf:Int→Qn:=fun k=>if k=0 then .left else if k=1 then .marks else if k=2 then .due else if k=3 then .dealing else .against
end Prf
open PySem PySem.Spec PyProof.Rows L2
local macro_rules | `(tactic| walk_at "ne")=>`(tactic| first | assumption | (exact Ne.symm (by assumption)) | (exact zaf (by assumption) (by assumption)) | (exact Ne.symm (zaf (by assumption) (by assumption))))
local macro_rules | `(tactic| walk_at "hp")=>`(tactic| first | assumption | (exact zaq) | (exact SqL.of zaq) | (exact SqL.of (by assumption)) | (exact Eq.trans (zaJ (by walk_at "ne")) (by walk_at "hp")) | (exact SqL.of (Eq.trans (zaJ (by walk_at "ne")) (by walk_at "hp"))))
local macro_rules | `(tactic| walk_at "ty")=>`(tactic| first | (exact TyOf.int _) | (exact TyOf.bl _) | (exact TyOf.non) | (exact TyOf.str _) | (exact TyOf.lst (by walk_at "hp")))
local macro_rules | `(tactic| walk_at "ix")=>`(tactic| first | (exact zex (by omega) (by omega)) | (exact zey (by omega) (by omega)) | (exact rfl))
local macro_rules | `(tactic| walk_at "rd1")=>`(tactic| first
 | (with_reducible refine ziD ?_) | (with_reducible refine zlJ ?_) | (with_reducible refine zlK ?_) | (with_reducible refine zlI ?_) | (with_reducible refine zkJ ?_) | (with_reducible refine zkK ?_) | (with_reducible refine r_break ?_) | (with_reducible refine r_intI ?_) | (with_reducible refine zlf ?_) | (with_reducible refine zjL ?_)
 | (with_reducible refine r_op ?_) | ((with_reducible refine' zjK ?rv ?_);(case rv=>exact rfl)) | (with_reducible refine r_c ?_)
 | (with_reducible refine r_I0 ?_) | (with_reducible refine zkP ?_) | (with_reducible refine zk9 ?_) | (with_reducible refine r_eq2B ?_) | (with_reducible refine zla ?_) | (with_reducible refine r_ne2B ?_) | (with_reducible refine r_eqGI ?_) | (with_reducible refine zjf ?_) | (with_reducible refine r_eqGB ?_) | (with_reducible refine r_neGB ?_)
 | (with_reducible refine r_cb ?_) | (with_reducible refine zkF ?_) | (with_reducible refine ze5 ?_) | (with_reducible refine zje ?_) | (with_reducible refine zlE ?_) | (with_reducible refine r_bm ?_)
 | (with_reducible refine r_andV ?_) | (with_reducible refine zlF ?_) | (with_reducible refine r_notV ?_) | (with_reducible refine zkH ?_) | (with_reducible refine zkI ?_) | (with_reducible refine r_tB ?_)
 | (with_reducible refine zlG ?_) | (with_reducible refine r_or ?_) | (with_reducible refine zlH ?_) | (with_reducible refine r_if ?_) | (with_reducible refine r_tt ?_) | (with_reducible refine zjM ?_) | (with_reducible refine zjN ?_)
 | ((with_reducible refine' zle ?h1 ?_);(case h1=>walk_at "hp")) | ((with_reducible refine' r_notIn2I ?h1 ?_);(case h1=>walk_at "hp")) | (with_reducible refine r_forZ ?_)
 | (with_reducible refine zlQ ?_) | (with_reducible refine r_notN ?_)
 | (with_reducible refine zkV ?_) | (with_reducible refine zkW ?_) | ((with_reducible refine' zkX ?h1 ?h2 ?_);(case h1=>omega);(case h2=>omega)) | ((with_reducible refine' zlP ?h1 ?_);(case h1=>exact ⟨by decide,by decide,by decide⟩))
 | ((with_reducible refine' zkZ ?h1 ?_);(case h1=>first | (exact .inl (.inr ⟨by decide,by decide⟩)) | (exact .inl (.inl ⟨by omega,by omega⟩)) | (exact .inl (.inr ⟨by omega,by omega⟩)) | (exact .inr ⟨⟨by omega,by omega⟩,by omega,by omega⟩)))
 | (with_reducible refine r_lr ?_) | (with_reducible refine r_sl ?_) | (with_reducible refine zjY ?_) | (with_reducible refine zkY ?_) | (with_reducible refine zjZ ?_) | (with_reducible refine r_setSub ?_) | (with_reducible refine r_gsub ?_)
 | (with_reducible refine zkU ?_) | ((with_reducible refine' ziF ?h1 ?_);(case h1=>walk_at "hp"))
 | (with_reducible refine r_for3 ?_) | (with_reducible refine r_tun ?_) | (with_reducible refine r_un ?_)
 | (with_reducible refine zkL ?_) | (with_reducible refine zkM ?_) | (with_reducible refine zkQ ?_) | (with_reducible refine zjP ?_) | (with_reducible refine zjQ ?_) | (with_reducible refine zjR ?_) | (with_reducible refine zk1 ?_) | (with_reducible refine zj3 ?_) | (with_reducible refine r_compZ ?_)
 | (with_reducible refine zlR ?_) | (with_reducible refine zk2 ?_) | (with_reducible refine zk3 ?_) | (with_reducible refine zk4 ?_) | (with_reducible refine r_augS ?_) | (with_reducible refine r_ipI ?_) | (with_reducible refine r_din ?_) | (with_reducible refine r_dnin ?_) | (with_reducible refine zk5 ?_) | (with_reducible refine r_dput ?_)
 | ((with_reducible refine' ziK ?h1 ?h2 ?h3 ?h4 ?_);(case h1=>assumption);(case h2=>assumption);(case h3=>assumption);(case h4=>assumption))
 | ((with_reducible refine' zjO ?h1 ?_);(case h1=>omega)) | ((with_reducible refine' r_div ?h1 ?h2 ?_);(case h1=>omega);(case h2=>omega)) | ((with_reducible refine' r_mul ?h1 ?_);(case h1=>first | (exact .inr ⟨by decide,by decide⟩) | (exact .inl ⟨by omega,by omega⟩) | (exact .inr ⟨by omega,by omega⟩))) | ((with_reducible refine' zlN ?h1 ?_);(case h1=>walk_at "hp"))
 | ((with_reducible refine' zdj ?h1 ?h2 ?_);(case h1=>walk_at "hp");(case h2=>walk_at "ix"))
 | ((with_reducible refine' zkN ?h1 ?_);(case h1=>walk_at "hp")) | ((with_reducible refine' zkO ?h1 ?_);(case h1=>walk_at "hp")) | ((with_reducible refine' zlL ?h1 ?_);(case h1=>walk_at "hp"))
 | ((with_reducible refine' zlM ?h1 ?h2 ?_);(case h1=>walk_at "ty");(case h2=>rfl)))
local macro_rules | `(tactic| walk_at "rd")=>`(tactic| repeat (walk_at "rd1"))
local macro_rules | `(tactic| walk_at "st")=>`(tactic| repeat ((fail_if_success (with_reducible refine ziD ?_));walk_at "rd1"))
local macro_rules | `(tactic| walk_at "rdk")=>`(tactic| repeat (first | walk_at "rd1" | (with_reducible refine iteF ?_) | (with_reducible refine iteT ?_) | (refine zbm (fun h=>absurd h (by omega)) (fun _=>?_)) | (refine zbm (fun _=>?_) (fun h=>absurd (by omega) h))))
local macro_rules | `(tactic| symm)=>`(tactic| walk_at "rd")
set_option hygiene false
local macro_rules | `(tactic| walk_at "hd")=>`(tactic| (obtain ⟨e,kvs,rfl,hF,I⟩:=E0;have hcl:=T.cl_Exam;have nA:=T.n_Exam_paper_houses;have nB:=T.n_Exam_reader_rows;have nS:=T.n_Exam_widest_step;have nD:=T.n_Exam_is_dealt;have nC:=T.n_Exam_named_readers;have nE:=T.n_Exam_entered_points;have hob:=I.ob;have fA:=@exFs_a (.ref e.a) (.ref e.b) (.int st.step) (.bl st.dl.isSome) (.ref e.c) (.ref e.d);have fB:=@exFs_b (.ref e.a) (.ref e.b) (.int st.step) (.bl st.dl.isSome) (.ref e.c) (.ref e.d);have fS:=@exFs_s (.ref e.a) (.ref e.b) (.int st.step) (.bl st.dl.isSome) (.ref e.c) (.ref e.d);have fD:=@exFs_d (.ref e.a) (.ref e.b) (.int st.step) (.bl st.dl.isSome) (.ref e.c) (.ref e.d);have fC:=@exFs_c (.ref e.a) (.ref e.b) (.int st.step) (.bl st.dl.isSome) (.ref e.c) (.ref e.d);have fE:=@exFs_e (.ref e.a) (.ref e.b) (.int st.step) (.bl st.dl.isSome) (.ref e.c) (.ref e.d);have hha:=I.ha;have hhb:=I.hb;have hhc:=I.hc;have hhd:=I.hd))
set_option hygiene true
namespace Prf
open PySem PySem.Spec PyProof.Rows L2
def top (i:Nat):Stmt:=PySem.Challenge.pw_secondread_k31_desk_bringing.main.body.getD i (.Pass ⟨0,0,0,0⟩)
abbrev s_65:Stmt:=top 67
theorem sc_65:zak ["_law_script","_law_k"] ["_law_script","_law_k"] (zab s_65):=⟨rfl,rfl,rfl,by decide +kernel,rfl,by decide +kernel,by decide +kernel⟩
abbrev s_70:Stmt:=top 72
theorem sc_70:zak ["_law_dealt"] ["_law_dealt"] (zab s_70):=⟨rfl,rfl,rfl,by decide +kernel,rfl,by decide +kernel,by decide +kernel⟩
abbrev s_66:Stmt:=top 68
theorem sc_66:zak ["_law_cell","_law_least","_law_most"] ["_law_cell","_law_least","_law_most"] (zab s_66):=⟨rfl,rfl,rfl,by decide +kernel,rfl,by decide +kernel,by decide +kernel⟩
abbrev s_67:Stmt:=top 69
theorem sc_67:zak ["_law_dealt","_law_many","_law_count","_law_todo","_law_faults"] ["_law_dealt","_law_many","_law_count","_law_todo"] (zab s_67):=⟨rfl,rfl,rfl,by decide +kernel,rfl,by decide +kernel,by decide +kernel⟩
abbrev s_69:Stmt:=top 71
theorem sc_69:zak ["_law_cell","_law_more","_law_homes","_law_staff","_law_dealt","_law_todo","_law_text","_law_due","_law_faults","_law_words"] ["_law_cell","_law_more","_law_homes","_law_staff","_law_dealt"] (zab s_69):=⟨rfl,rfl,rfl,by decide +kernel,rfl,by decide +kernel,by decide +kernel⟩
abbrev s_71:Stmt:=top 73
theorem sc_71:zak ["_law_homes","_law_dealt"] ["_law_homes","_law_dealt"] (zab s_71):=⟨rfl,rfl,rfl,by decide +kernel,rfl,by decide +kernel,by decide +kernel⟩
abbrev s_68:Stmt:=top 70
theorem sc_68:zak ["_law_kind","_law_homes","_law_staff","_law_dealt","_law_none"] ["_law_kind","_law_homes","_law_staff","_law_dealt"] (zab s_68):=⟨rfl,rfl,rfl,by decide +kernel,rfl,by decide +kernel,by decide +kernel⟩
abbrev s_30:Stmt:=za7 (top 51) 0
theorem sc_30:zak ["self"] ["self"] (zab s_30):=⟨rfl,rfl,rfl,by decide +kernel,rfl,by decide +kernel,by decide +kernel⟩
abbrev s_60:Stmt:=top 61
theorem sc_60:zak ["parts"] ["parts"] (zab s_60):=⟨rfl,rfl,rfl,by decide +kernel,rfl,by decide +kernel,by decide +kernel⟩
abbrev s_61:Stmt:=top 62
theorem sc_61:zak ["paper","first","second"] ["paper","first","second"] (zab s_61):=⟨rfl,rfl,rfl,by decide +kernel,rfl,by decide +kernel,by decide +kernel⟩
abbrev s_58:Stmt:=top 59
theorem sc_58:zak ["rows"] ["rows"] (zab s_58):=⟨rfl,rfl,rfl,by decide +kernel,rfl,by decide +kernel,by decide +kernel⟩
abbrev s_40:Stmt:=za7 (top 51) 10
theorem sc_40:zak ["self"] ["self"] (zab s_40):=⟨rfl,rfl,rfl,by decide +kernel,rfl,by decide +kernel,by decide +kernel⟩
abbrev s_59:Stmt:=top 60
theorem sc_59:zak ["chosen"] ["chosen"] (zab s_59):=⟨rfl,rfl,rfl,by decide +kernel,rfl,by decide +kernel,by decide +kernel⟩
abbrev s_4:Stmt:=top 13
theorem sc_4:zak ["chosen"] ["chosen"] (zab s_4):=⟨rfl,rfl,rfl,by decide +kernel,rfl,by decide +kernel,by decide +kernel⟩
abbrev s_3:Stmt:=top 12
theorem sc_3:zak ["of_one_size","many","larger","chosen","paper"] ["of_one_size","many"] (zab s_3):=⟨rfl,rfl,rfl,by decide +kernel,rfl,by decide +kernel,by decide +kernel⟩
abbrev s_2:Stmt:=top 11
theorem sc_2:zak ["many","told","of_one_size"] ["many"] (zab s_2):=⟨rfl,rfl,rfl,by decide +kernel,rfl,by decide +kernel,by decide +kernel⟩
abbrev s_0:Stmt:=top 8
theorem sc_0:zak ["papers","readers","paper","reader","reader_house"] ["papers","readers","paper","reader"] (zab s_0):=⟨rfl,rfl,rfl,by decide +kernel,rfl,by decide +kernel,by decide +kernel⟩
abbrev s_6:Stmt:=top 16
theorem sc_6:zak ["papers","readers","chosen","reader","limit","may_be_read"] ["papers","readers","chosen","reader"] (zab s_6):=⟨rfl,rfl,rfl,by decide +kernel,rfl,by decide +kernel,by decide +kernel⟩
abbrev s_5:Stmt:=top 15
theorem sc_5:zak ["papers","readers","chosen"] ["papers","readers","chosen"] (zab s_5):=⟨rfl,rfl,rfl,by decide +kernel,rfl,by decide +kernel,by decide +kernel⟩
abbrev s_7:Stmt:=top 17
theorem sc_7:zak ["papers","readers","chosen"] ["papers","readers","chosen"] (zab s_7):=⟨rfl,rfl,rfl,by decide +kernel,rfl,by decide +kernel,by decide +kernel⟩
abbrev s_8:Stmt:=top 18
theorem sc_8:zak ["papers","readers","chosen"] ["papers","readers"] (zab s_8):=⟨rfl,rfl,rfl,by decide +kernel,rfl,by decide +kernel,by decide +kernel⟩
abbrev s_41:Stmt:=za7 (top 51) 11
theorem sc_41:zak ["self"] ["self"] (zab s_41):=⟨rfl,rfl,rfl,by decide +kernel,rfl,by decide +kernel,by decide +kernel⟩
abbrev s_48:Stmt:=za7 (top 51) 18
theorem sc_48:zak ["self","paper","entered"] ["self","paper"] (zab s_48):=⟨rfl,rfl,rfl,by decide +kernel,rfl,by decide +kernel,by decide +kernel⟩
abbrev s_42:Stmt:=za7 (top 51) 12
theorem sc_42:zak ["self","rows","paper"] ["self"] (zab s_42):=⟨rfl,rfl,rfl,by decide +kernel,rfl,by decide +kernel,by decide +kernel⟩
abbrev s_62:Stmt:=top 63
theorem sc_62:zak ["paper","reader"] ["paper","reader"] (zab s_62):=⟨rfl,rfl,rfl,by decide +kernel,rfl,by decide +kernel,by decide +kernel⟩
abbrev s_50:Stmt:=za7 (top 51) 20
theorem sc_50:zak ["self","paper","points","readings"] ["self","paper"] (zab s_50):=⟨rfl,rfl,rfl,by decide +kernel,rfl,by decide +kernel,by decide +kernel⟩
abbrev s_43:Stmt:=za7 (top 51) 13
theorem sc_43:zak ["self"] ["self"] (zab s_43):=⟨rfl,rfl,rfl,by decide +kernel,rfl,by decide +kernel,by decide +kernel⟩
abbrev s_64:Stmt:=top 65
theorem sc_64:zak ["reader","points"] ["reader","points"] (zab s_64):=⟨rfl,rfl,rfl,by decide +kernel,rfl,by decide +kernel,by decide +kernel⟩
abbrev s_63:Stmt:=top 64
theorem sc_63:zak ["paper","mark","top","bottom","readings"] ["paper","mark"] (zab s_63):=⟨rfl,rfl,rfl,by decide +kernel,rfl,by decide +kernel,by decide +kernel⟩
abbrev s_15:Stmt:=top 32
theorem sc_15:zak ["rows","reader"] ["rows","reader"] (zab s_15):=⟨rfl,rfl,rfl,by decide +kernel,rfl,by decide +kernel,by decide +kernel⟩
abbrev s_14:Stmt:=top 31
theorem sc_14:zak ["readers","rows"] ["readers","rows"] (zab s_14):=⟨rfl,rfl,rfl,by decide +kernel,rfl,by decide +kernel,by decide +kernel⟩
abbrev s_44:Stmt:=za7 (top 51) 14
theorem sc_44:zak ["self"] ["self"] (zab s_44):=⟨rfl,rfl,rfl,by decide +kernel,rfl,by decide +kernel,by decide +kernel⟩
abbrev s_57:Stmt:=top 58
theorem sc_57:zak ["exam","question"] ["exam","question"] (zab s_57):=⟨rfl,rfl,rfl,by decide +kernel,rfl,by decide +kernel,by decide +kernel⟩
abbrev s_45:Stmt:=za7 (top 51) 15
theorem sc_45:zak ["self"] ["self"] (zab s_45):=⟨rfl,rfl,rfl,by decide +kernel,rfl,by decide +kernel,by decide +kernel⟩
abbrev s_26:Stmt:=top 45
theorem sc_26:zak ["number","least","most"] ["number","least","most"] (zab s_26):=⟨rfl,rfl,rfl,by decide +kernel,rfl,by decide +kernel,by decide +kernel⟩
abbrev s_28:Stmt:=top 47
theorem sc_28:zak ["many","most"] ["many","most"] (zab s_28):=⟨rfl,rfl,rfl,by decide +kernel,rfl,by decide +kernel,by decide +kernel⟩
abbrev s_31:Stmt:=za7 (top 51) 1
theorem sc_31:zak ["self","house"] ["self","house"] (zab s_31):=⟨rfl,rfl,rfl,by decide +kernel,rfl,by decide +kernel,by decide +kernel⟩
abbrev s_27:Stmt:=top 46
theorem sc_27:zak ["number","most"] ["number","most"] (zab s_27):=⟨rfl,rfl,rfl,by decide +kernel,rfl,by decide +kernel,by decide +kernel⟩
abbrev s_32:Stmt:=za7 (top 51) 2
theorem sc_32:zak ["self","house","limit"] ["self","house","limit"] (zab s_32):=⟨rfl,rfl,rfl,by decide +kernel,rfl,by decide +kernel,by decide +kernel⟩
abbrev s_33:Stmt:=za7 (top 51) 3
theorem sc_33:zak ["self","step"] ["self","step"] (zab s_33):=⟨rfl,rfl,rfl,by decide +kernel,rfl,by decide +kernel,by decide +kernel⟩
abbrev s_46:Stmt:=za7 (top 51) 16
theorem sc_46:zak ["self"] ["self"] (zab s_46):=⟨rfl,rfl,rfl,by decide +kernel,rfl,by decide +kernel,by decide +kernel⟩
abbrev s_47:Stmt:=za7 (top 51) 17
theorem sc_47:zak ["self","paper","reader"] ["self","paper","reader"] (zab s_47):=⟨rfl,rfl,rfl,by decide +kernel,rfl,by decide +kernel,by decide +kernel⟩
abbrev s_51:Stmt:=za7 (top 51) 21
theorem sc_51:zak ["self","paper","named","third"] ["self","paper"] (zab s_51):=⟨rfl,rfl,rfl,by decide +kernel,rfl,by decide +kernel,by decide +kernel⟩
abbrev s_35:Stmt:=za7 (top 51) 5
theorem sc_35:zak ["self","paper","reader","points"] ["self","paper","reader","points"] (zab s_35):=⟨rfl,rfl,rfl,by decide +kernel,rfl,by decide +kernel,by decide +kernel⟩
abbrev s_18:Stmt:=top 35
theorem sc_18:zak ["numbers","pairs","place","first","second"] ["numbers"] (zab s_18):=⟨rfl,rfl,rfl,by decide +kernel,rfl,by decide +kernel,by decide +kernel⟩
abbrev s_1:Stmt:=top 9
theorem sc_1:zak ["papers","readers","paper"] ["papers","readers","paper"] (zab s_1):=⟨rfl,rfl,rfl,by decide +kernel,rfl,by decide +kernel,by decide +kernel⟩
abbrev s_19:Stmt:=top 36
theorem sc_19:zak ["papers","readers","rows"] ["papers","readers","rows"] (zab s_19):=⟨rfl,rfl,rfl,by decide +kernel,rfl,by decide +kernel,by decide +kernel⟩
abbrev s_17:Stmt:=top 34
theorem sc_17:zak ["papers","readers","rows","paper","row"] ["papers","readers","rows"] (zab s_17):=⟨rfl,rfl,rfl,by decide +kernel,rfl,by decide +kernel,by decide +kernel⟩
abbrev s_16:Stmt:=top 33
theorem sc_16:zak ["papers","readers","rows","row"] ["papers","readers"] (zab s_16):=⟨rfl,rfl,rfl,by decide +kernel,rfl,by decide +kernel,by decide +kernel⟩
abbrev s_34:Stmt:=za7 (top 51) 4
theorem sc_34:zak ["self","rows"] ["self"] (zab s_34):=⟨rfl,rfl,rfl,by decide +kernel,rfl,by decide +kernel,by decide +kernel⟩
abbrev s_56:Stmt:=top 57
theorem sc_56:zak ["exam","deed","numbers"] ["exam","deed","numbers"] (zab s_56):=⟨rfl,rfl,rfl,by decide +kernel,rfl,by decide +kernel,by decide +kernel⟩
abbrev s_55:Stmt:=top 56
theorem sc_55:zak ["exam","deed","numbers"] ["exam","deed","numbers"] (zab s_55):=⟨rfl,rfl,rfl,by decide +kernel,rfl,by decide +kernel,by decide +kernel⟩
abbrev s_54:Stmt:=top 55
theorem sc_54:zak ["exam","row","words","numbers"] ["exam","row"] (zab s_54):=⟨rfl,rfl,rfl,by decide +kernel,rfl,by decide +kernel,by decide +kernel⟩
abbrev s_53:Stmt:=top 54
theorem sc_53:zak ["rows","exam"] ["rows"] (zab s_53):=⟨rfl,rfl,rfl,by decide +kernel,rfl,by decide +kernel,by decide +kernel⟩
abbrev s_72:Stmt:=top 74
theorem sc_72:zak ["_law_script","_law_homes","_law_staff","_law_dealt","_law_made","_law_fill","_law_k","_law_cell","_law_more","_law_plain","_law_handed","_law_found"] ["_law_script"] (zab s_72):=⟨rfl,rfl,rfl,by decide +kernel,rfl,by decide +kernel,by decide +kernel⟩
set_option genInjectivity false in
set_option genSizeOf false in
structure Adr where
 f_65:Addr
 d_65:FuncData
 f_70:Addr
 d_70:FuncData
 f_66:Addr
 d_66:FuncData
 f_67:Addr
 d_67:FuncData
 f_69:Addr
 d_69:FuncData
 f_71:Addr
 d_71:FuncData
 f_68:Addr
 d_68:FuncData
 f_30:Addr
 d_30:FuncData
 f_60:Addr
 d_60:FuncData
 f_61:Addr
 d_61:FuncData
 f_58:Addr
 d_58:FuncData
 f_40:Addr
 d_40:FuncData
 f_59:Addr
 d_59:FuncData
 f_4:Addr
 d_4:FuncData
 f_3:Addr
 d_3:FuncData
 f_2:Addr
 d_2:FuncData
 f_0:Addr
 d_0:FuncData
 f_6:Addr
 d_6:FuncData
 f_5:Addr
 d_5:FuncData
 f_7:Addr
 d_7:FuncData
 f_8:Addr
 d_8:FuncData
 f_41:Addr
 d_41:FuncData
 f_48:Addr
 d_48:FuncData
 f_42:Addr
 d_42:FuncData
 f_62:Addr
 d_62:FuncData
 f_50:Addr
 d_50:FuncData
 f_43:Addr
 d_43:FuncData
 f_64:Addr
 d_64:FuncData
 f_63:Addr
 d_63:FuncData
 f_15:Addr
 d_15:FuncData
 f_14:Addr
 d_14:FuncData
 f_44:Addr
 d_44:FuncData
 f_57:Addr
 d_57:FuncData
 f_45:Addr
 d_45:FuncData
 f_26:Addr
 d_26:FuncData
 f_28:Addr
 d_28:FuncData
 f_31:Addr
 d_31:FuncData
 f_27:Addr
 d_27:FuncData
 f_32:Addr
 d_32:FuncData
 f_33:Addr
 d_33:FuncData
 f_46:Addr
 d_46:FuncData
 f_47:Addr
 d_47:FuncData
 f_51:Addr
 d_51:FuncData
 f_35:Addr
 d_35:FuncData
 f_18:Addr
 d_18:FuncData
 f_1:Addr
 d_1:FuncData
 f_19:Addr
 d_19:FuncData
 f_17:Addr
 d_17:FuncData
 f_16:Addr
 d_16:FuncData
 f_34:Addr
 d_34:FuncData
 f_56:Addr
 d_56:FuncData
 f_55:Addr
 d_55:FuncData
 f_54:Addr
 d_54:FuncData
 f_53:Addr
 d_53:FuncData
 f_72:Addr
 d_72:FuncData
 C_Exam:Addr
 k_READERS_EACH:Value
 k_MOST_HOUSES:Value
 k_MOST_PAPERS:Value
 k_MOST_LIMIT:Value
 k_MOST_READERS:Value
 k_MOST_STEP:Value
 k_MOST_POINTS:Value
 q_QUESTIONS:Addr
 xa:XAd
set_option genInjectivity false in
set_option genSizeOf false in
structure Txt (K:PySem.W.Frag) (mg:Str→Option Value) (t:Adr):Prop where
 F_65:Fun K "_law_at" "_law_at" s_65 t.f_65 t.d_65
 b_65:Binds K t.d_65 ["_law_script","_law_k"] []
 m_65:mg "_law_at" = some (.ref t.f_65)
 F_70:Fun K "_law_early" "_law_early" s_70 t.f_70 t.d_70
 b_70:Binds K t.d_70 ["_law_dealt"] []
 m_70:mg "_law_early" = some (.ref t.f_70)
 F_66:Fun K "_law_wild" "_law_wild" s_66 t.f_66 t.d_66
 b_66:Binds K t.d_66 ["_law_cell","_law_least","_law_most"] []
 m_66:mg "_law_wild" = some (.ref t.f_66)
 F_67:Fun K "_law_bring_faults" "_law_bring_faults" s_67 t.f_67 t.d_67
 b_67:Binds K t.d_67 ["_law_dealt","_law_many","_law_count","_law_todo"] []
 m_67:mg "_law_bring_faults" = some (.ref t.f_67)
 F_69:Fun K "_law_brought" "_law_brought" s_69 t.f_69 t.d_69
 b_69:Binds K t.d_69 ["_law_cell","_law_more","_law_homes","_law_staff","_law_dealt"] []
 m_69:mg "_law_brought" = some (.ref t.f_69)
 F_71:Fun K "_law_dealing" "_law_dealing" s_71 t.f_71 t.d_71
 b_71:Binds K t.d_71 ["_law_homes","_law_dealt"] []
 m_71:mg "_law_dealing" = some (.ref t.f_71)
 F_68:Fun K "_law_asked" "_law_asked" s_68 t.f_68 t.d_68
 b_68:Binds K t.d_68 ["_law_kind","_law_homes","_law_staff","_law_dealt"] []
 m_68:mg "_law_asked" = some (.ref t.f_68)
 F_30:Fun K "__init__" "Exam.__init__" s_30 t.f_30 t.d_30
 b_30:Binds K t.d_30 ["self"] []
 mk_Exam:Mk K t.C_Exam t.f_30
 F_60:Fun K "in_one_row" "in_one_row" s_60 t.f_60 t.d_60
 b_60:Binds K t.d_60 ["parts"] []
 m_60:mg "in_one_row" = some (.ref t.f_60)
 F_61:Fun K "dealing_part" "dealing_part" s_61 t.f_61 t.d_61
 b_61:Binds K t.d_61 ["paper","first","second"] []
 m_61:mg "dealing_part" = some (.ref t.f_61)
 F_58:Fun K "told_dealing" "told_dealing" s_58 t.f_58 t.d_58
 b_58:Binds K t.d_58 ["rows"] []
 m_58:mg "told_dealing" = some (.ref t.f_58)
 F_40:Fun K "dealing" "Exam.dealing" s_40 t.f_40 t.d_40
 b_40:Binds K t.d_40 ["self"] []
 me_40:Meth K t.C_Exam "dealing" t.f_40
 F_59:Fun K "told_against" "told_against" s_59 t.f_59 t.d_59
 b_59:Binds K t.d_59 ["chosen"] []
 m_59:mg "told_against" = some (.ref t.f_59)
 F_4:Fun K "greatest_of" "greatest_of" s_4 t.f_4 t.d_4
 b_4:Binds K t.d_4 ["chosen"] []
 m_4:mg "greatest_of" = some (.ref t.f_4)
 F_3:Fun K "sets_one_larger" "sets_one_larger" s_3 t.f_3 t.d_3
 b_3:Binds K t.d_3 ["of_one_size","many"] []
 m_3:mg "sets_one_larger" = some (.ref t.f_3)
 F_2:Fun K "sets_of" "sets_of" s_2 t.f_2 t.d_2
 b_2:Binds K t.d_2 ["many"] []
 m_2:mg "sets_of" = some (.ref t.f_2)
 F_0:Fun K "may_read" "may_read" s_0 t.f_0 t.d_0
 b_0:Binds K t.d_0 ["papers","readers","paper","reader"] []
 m_0:mg "may_read" = some (.ref t.f_0)
 F_6:Fun K "room_of" "room_of" s_6 t.f_6 t.d_6
 b_6:Binds K t.d_6 ["papers","readers","chosen","reader"] []
 m_6:mg "room_of" = some (.ref t.f_6)
 F_5:Fun K "room" "room" s_5 t.f_5 t.d_5
 b_5:Binds K t.d_5 ["papers","readers","chosen"] []
 m_5:mg "room" = some (.ref t.f_5)
 F_7:Fun K "is_against" "is_against" s_7 t.f_7 t.d_7
 b_7:Binds K t.d_7 ["papers","readers","chosen"] []
 m_7:mg "is_against" = some (.ref t.f_7)
 F_8:Fun K "first_against" "first_against" s_8 t.f_8 t.d_8
 b_8:Binds K t.d_8 ["papers","readers"] []
 m_8:mg "first_against" = some (.ref t.f_8)
 F_41:Fun K "against" "Exam.against" s_41 t.f_41 t.d_41
 b_41:Binds K t.d_41 ["self"] []
 me_41:Meth K t.C_Exam "against" t.f_41
 F_48:Fun K "due_readers" "Exam.due_readers" s_48 t.f_48 t.d_48
 b_48:Binds K t.d_48 ["self","paper"] []
 me_48:Meth K t.C_Exam "due_readers" t.f_48
 F_42:Fun K "due" "Exam.due" s_42 t.f_42 t.d_42
 b_42:Binds K t.d_42 ["self"] []
 me_42:Meth K t.C_Exam "due" t.f_42
 F_62:Fun K "due_part" "due_part" s_62 t.f_62 t.d_62
 b_62:Binds K t.d_62 ["paper","reader"] []
 m_62:mg "due_part" = some (.ref t.f_62)
 F_50:Fun K "mark_for" "Exam.mark_for" s_50 t.f_50 t.d_50
 b_50:Binds K t.d_50 ["self","paper"] []
 me_50:Meth K t.C_Exam "mark_for" t.f_50
 F_43:Fun K "marks" "Exam.marks" s_43 t.f_43 t.d_43
 b_43:Binds K t.d_43 ["self"] []
 me_43:Meth K t.C_Exam "marks" t.f_43
 F_64:Fun K "reading_part" "reading_part" s_64 t.f_64 t.d_64
 b_64:Binds K t.d_64 ["reader","points"] []
 m_64:mg "reading_part" = some (.ref t.f_64)
 F_63:Fun K "mark_part" "mark_part" s_63 t.f_63 t.d_63
 b_63:Binds K t.d_63 ["paper","mark"] []
 m_63:mg "mark_part" = some (.ref t.f_63)
 F_15:Fun K "times_in" "times_in" s_15 t.f_15 t.d_15
 b_15:Binds K t.d_15 ["rows","reader"] []
 m_15:mg "times_in" = some (.ref t.f_15)
 F_14:Fun K "left_after" "left_after" s_14 t.f_14 t.d_14
 b_14:Binds K t.d_14 ["readers","rows"] []
 m_14:mg "left_after" = some (.ref t.f_14)
 F_44:Fun K "left" "Exam.left" s_44 t.f_44 t.d_44
 b_44:Binds K t.d_44 ["self"] []
 me_44:Meth K t.C_Exam "left" t.f_44
 F_57:Fun K "told_of" "told_of" s_57 t.f_57 t.d_57
 b_57:Binds K t.d_57 ["exam","question"] []
 m_57:mg "told_of" = some (.ref t.f_57)
 F_45:Fun K "refuse_behind_dealing" "Exam.refuse_behind_dealing" s_45 t.f_45 t.d_45
 b_45:Binds K t.d_45 ["self"] []
 me_45:Meth K t.C_Exam "refuse_behind_dealing" t.f_45
 F_26:Fun K "refuse_unknown" "refuse_unknown" s_26 t.f_26 t.d_26
 b_26:Binds K t.d_26 ["number","least","most"] []
 m_26:mg "refuse_unknown" = some (.ref t.f_26)
 F_28:Fun K "refuse_full" "refuse_full" s_28 t.f_28 t.d_28
 b_28:Binds K t.d_28 ["many","most"] []
 m_28:mg "refuse_full" = some (.ref t.f_28)
 F_31:Fun K "bring_paper" "Exam.bring_paper" s_31 t.f_31 t.d_31
 b_31:Binds K t.d_31 ["self","house"] []
 me_31:Meth K t.C_Exam "bring_paper" t.f_31
 F_27:Fun K "refuse_out_of_bounds" "refuse_out_of_bounds" s_27 t.f_27 t.d_27
 b_27:Binds K t.d_27 ["number","most"] []
 m_27:mg "refuse_out_of_bounds" = some (.ref t.f_27)
 F_32:Fun K "bring_reader" "Exam.bring_reader" s_32 t.f_32 t.d_32
 b_32:Binds K t.d_32 ["self","house","limit"] []
 me_32:Meth K t.C_Exam "bring_reader" t.f_32
 F_33:Fun K "set_step" "Exam.set_step" s_33 t.f_33 t.d_33
 b_33:Binds K t.d_33 ["self","step"] []
 me_33:Meth K t.C_Exam "set_step" t.f_33
 F_46:Fun K "refuse_ahead_of_dealing" "Exam.refuse_ahead_of_dealing" s_46 t.f_46 t.d_46
 b_46:Binds K t.d_46 ["self"] []
 me_46:Meth K t.C_Exam "refuse_ahead_of_dealing" t.f_46
 F_47:Fun K "refuse_not_due" "Exam.refuse_not_due" s_47 t.f_47 t.d_47
 b_47:Binds K t.d_47 ["self","paper","reader"] []
 me_47:Meth K t.C_Exam "refuse_not_due" t.f_47
 F_51:Fun K "name_third" "Exam.name_third" s_51 t.f_51 t.d_51
 b_51:Binds K t.d_51 ["self","paper"] []
 me_51:Meth K t.C_Exam "name_third" t.f_51
 F_35:Fun K "enter" "Exam.enter" s_35 t.f_35 t.d_35
 b_35:Binds K t.d_35 ["self","paper","reader","points"] []
 me_35:Meth K t.C_Exam "enter" t.f_35
 F_18:Fun K "pairs_of" "pairs_of" s_18 t.f_18 t.d_18
 b_18:Binds K t.d_18 ["numbers"] []
 m_18:mg "pairs_of" = some (.ref t.f_18)
 F_1:Fun K "readers_for" "readers_for" s_1 t.f_1 t.d_1
 b_1:Binds K t.d_1 ["papers","readers","paper"] []
 m_1:mg "readers_for" = some (.ref t.f_1)
 F_19:Fun K "can_go_on" "can_go_on" s_19 t.f_19 t.d_19
 b_19:Binds K t.d_19 ["papers","readers","rows"] []
 m_19:mg "can_go_on" = some (.ref t.f_19)
 F_17:Fun K "first_row_behind" "first_row_behind" s_17 t.f_17 t.d_17
 b_17:Binds K t.d_17 ["papers","readers","rows"] []
 m_17:mg "first_row_behind" = some (.ref t.f_17)
 F_16:Fun K "first_dealing" "first_dealing" s_16 t.f_16 t.d_16
 b_16:Binds K t.d_16 ["papers","readers"] []
 m_16:mg "first_dealing" = some (.ref t.f_16)
 F_34:Fun K "deal" "Exam.deal" s_34 t.f_34 t.d_34
 b_34:Binds K t.d_34 ["self"] []
 me_34:Meth K t.C_Exam "deal" t.f_34
 F_56:Fun K "done" "done" s_56 t.f_56 t.d_56
 b_56:Binds K t.d_56 ["exam","deed","numbers"] []
 m_56:mg "done" = some (.ref t.f_56)
 F_55:Fun K "done_or_refused" "done_or_refused" s_55 t.f_55 t.d_55
 b_55:Binds K t.d_55 ["exam","deed","numbers"] []
 m_55:mg "done_or_refused" = some (.ref t.f_55)
 F_54:Fun K "answer_to" "answer_to" s_54 t.f_54 t.d_54
 b_54:Binds K t.d_54 ["exam","row"] []
 m_54:mg "answer_to" = some (.ref t.f_54)
 F_53:Fun K "answers" "answers" s_53 t.f_53 t.d_53
 b_53:Binds K t.d_53 ["rows"] []
 m_53:mg "answers" = some (.ref t.f_53)
 F_72:Fun K "law" "law" s_72 t.f_72 t.d_72
 b_72:Binds K t.d_72 ["_law_script"] []
 m_72:mg "law" = some (.ref t.f_72)
 cl_Exam:Cls K t.C_Exam
 mg_Exam:mg "Exam" = some (.ref t.C_Exam)
 n_Exam_paper_houses:zbs K t.C_Exam "paper_houses"
 n_Exam_reader_rows:zbs K t.C_Exam "reader_rows"
 n_Exam_widest_step:zbs K t.C_Exam "widest_step"
 n_Exam_is_dealt:zbs K t.C_Exam "is_dealt"
 n_Exam_named_readers:zbs K t.C_Exam "named_readers"
 n_Exam_entered_points:zbs K t.C_Exam "entered_points"
 v_READERS_EACH:mg "READERS_EACH" = some t.k_READERS_EACH
 w_READERS_EACH:RelV (.int 2) t.k_READERS_EACH
 v_MOST_HOUSES:mg "MOST_HOUSES" = some t.k_MOST_HOUSES
 w_MOST_HOUSES:RelV (.int 6) t.k_MOST_HOUSES
 v_MOST_PAPERS:mg "MOST_PAPERS" = some t.k_MOST_PAPERS
 w_MOST_PAPERS:RelV (.int 10) t.k_MOST_PAPERS
 v_MOST_LIMIT:mg "MOST_LIMIT" = some t.k_MOST_LIMIT
 w_MOST_LIMIT:RelV (.int 30) t.k_MOST_LIMIT
 v_MOST_READERS:mg "MOST_READERS" = some t.k_MOST_READERS
 w_MOST_READERS:RelV (.int 8) t.k_MOST_READERS
 v_MOST_STEP:mg "MOST_STEP" = some t.k_MOST_STEP
 w_MOST_STEP:RelV (.int 100) t.k_MOST_STEP
 v_MOST_POINTS:mg "MOST_POINTS" = some t.k_MOST_POINTS
 w_MOST_POINTS:RelV (.int 100) t.k_MOST_POINTS
 v_QUESTIONS:mg "QUESTIONS" = some (.ref t.q_QUESTIONS)
 sq_QUESTIONS:∀ H,SqT K H t.q_QUESTIONS [.str "dealing",.str "against",.str "due",.str "marks",.str "left"]
 mx_OutOfTime:mg "OutOfTime" = some (.ref t.xa.OutOfTime)
 mx_UnknownNumber:mg "UnknownNumber" = some (.ref t.xa.UnknownNumber)
 mx_NotDue:mg "NotDue" = some (.ref t.xa.NotDue)
 mx_OutOfBounds:mg "OutOfBounds" = some (.ref t.xa.OutOfBounds)
 mx_Full:mg "Full" = some (.ref t.xa.Full)
 mx_ReadError:mg "ReadError" = some (.ref t.xa.ReadError)
 xc_OutOfTime:ExcC K t.xa.OutOfTime
 xc_UnknownNumber:ExcC K t.xa.UnknownNumber
 xc_OutOfBounds:ExcC K t.xa.OutOfBounds
 xc_Full:ExcC K t.xa.Full
 x_OutOfTime_OutOfTime:PySem.W.exmOne K (.ref t.xa.OutOfTime) (.ref t.xa.OutOfTime)=some true
 x_OutOfTime_UnknownNumber:PySem.W.exmOne K (.ref t.xa.OutOfTime) (.ref t.xa.UnknownNumber)=some false
 x_OutOfTime_NotDue:PySem.W.exmOne K (.ref t.xa.OutOfTime) (.ref t.xa.NotDue)=some false
 x_OutOfTime_OutOfBounds:PySem.W.exmOne K (.ref t.xa.OutOfTime) (.ref t.xa.OutOfBounds)=some false
 x_OutOfTime_Full:PySem.W.exmOne K (.ref t.xa.OutOfTime) (.ref t.xa.Full)=some false
 x_UnknownNumber_OutOfTime:PySem.W.exmOne K (.ref t.xa.UnknownNumber) (.ref t.xa.OutOfTime)=some false
 x_UnknownNumber_UnknownNumber:PySem.W.exmOne K (.ref t.xa.UnknownNumber) (.ref t.xa.UnknownNumber)=some true
 x_UnknownNumber_NotDue:PySem.W.exmOne K (.ref t.xa.UnknownNumber) (.ref t.xa.NotDue)=some false
 x_UnknownNumber_OutOfBounds:PySem.W.exmOne K (.ref t.xa.UnknownNumber) (.ref t.xa.OutOfBounds)=some false
 x_UnknownNumber_Full:PySem.W.exmOne K (.ref t.xa.UnknownNumber) (.ref t.xa.Full)=some false
 x_OutOfBounds_OutOfTime:PySem.W.exmOne K (.ref t.xa.OutOfBounds) (.ref t.xa.OutOfTime)=some false
 x_OutOfBounds_UnknownNumber:PySem.W.exmOne K (.ref t.xa.OutOfBounds) (.ref t.xa.UnknownNumber)=some false
 x_OutOfBounds_NotDue:PySem.W.exmOne K (.ref t.xa.OutOfBounds) (.ref t.xa.NotDue)=some false
 x_OutOfBounds_OutOfBounds:PySem.W.exmOne K (.ref t.xa.OutOfBounds) (.ref t.xa.OutOfBounds)=some true
 x_OutOfBounds_Full:PySem.W.exmOne K (.ref t.xa.OutOfBounds) (.ref t.xa.Full)=some false
 x_Full_OutOfTime:PySem.W.exmOne K (.ref t.xa.Full) (.ref t.xa.OutOfTime)=some false
 x_Full_UnknownNumber:PySem.W.exmOne K (.ref t.xa.Full) (.ref t.xa.UnknownNumber)=some false
 x_Full_NotDue:PySem.W.exmOne K (.ref t.xa.Full) (.ref t.xa.NotDue)=some false
 x_Full_OutOfBounds:PySem.W.exmOne K (.ref t.xa.Full) (.ref t.xa.OutOfBounds)=some false
 x_Full_Full:PySem.W.exmOne K (.ref t.xa.Full) (.ref t.xa.Full)=some true
 z_abs:mg "abs" = none
 z_all:mg "all" = none
 z_enumerate:mg "enumerate" = none
 z_int:mg "int" = none
 z_isinstance:mg "isinstance" = none
 z_len:mg "len" = none
 z_list:mg "list" = none
 z_max:mg "max" = none
 z_min:mg "min" = none
 z_range:mg "range" = none
 z_sorted:mg "sorted" = none
 z_str:mg "str" = none
 z_sum:mg "sum" = none
 z_zip:mg "zip" = none
end Prf
namespace Prf
open PySem PySem.Spec PyProof.Rows L2
section
variable {P:Program} {w:World} {K:PySem.W.Frag} {mg:Str→Option Value} {base:Heap} {t:Adr}
def zfr (K:PySem.W.Frag):Sp:=fun vs H Q _=>vs.length=2∧∃ (a:Addr) (ns:List Int) (k:Int),vs=[.ref a,.int k]∧SqL K H a (ns.map V.int)∧ns.length≤63∧Q (.int (zbQ ns k)) H
theorem zid (T:Txt K mg t):FnOk P w K mg base CX0 1 t.f_65 t.d_65 ["_law_script","_law_k"] (zfr K):=by
 refine T.F_65.ok sc_65 (fun _ _ _ _ h=>h.1) fun cdv A outer s H vs Q E hr h=>by
  refine ⟨_,(zac (zaK (zah (zaM (K:=K) rfl hr.units0) (zar (zao (K:=K) rfl) (by rfl) T.z_len (by rfl) (zaa (pv 0) pa_nil)) zad (zat _))
   (zae (zaj zad)) pss_nil)
   (zae (zaj (zav (op_addG) (zaD (zag (K:=K) rfl) (pv 0) (zav (op_mod) (pv 1) (zar (zao (K:=K) rfl) (by rfl) T.z_len (by rfl) (zaa (pv 0) pa_nil))) (fun _ _=>rfl)) (zav (op_fdivB) (pv 1) (zar (zao (K:=K) rfl) (by rfl) T.z_len (by rfl) (zaa (pv 0) pa_nil))))))),?_⟩
  obtain ⟨_,a,ns,k,rfl,hS,hl,q⟩:=h;symm;unfold zbQ at q;refine zbm (fun h0=>?_) (fun h0=>?_)
  ·rw [if_pos h0] at q;symm;exact q
  ·rw [if_neg h0] at q;have h3:(0:Int) < ns.length:=by omega
   symm;refine zdj hS (zex (Int.emod_nonneg _ h0) (Int.emod_lt_of_pos _ h3)) ?_;symm;exact q
theorem zgr {H:Hp} {a:Addr} {ns:List Int} {k:Int} {Q:VK} {E:XK} (h:SqL K H a (ns.map V.int)) (hl:ns.length≤63) (q:Q (.int (zbQ ns k)) H):zfr K [.ref a,.int k] H Q E:=⟨rfl,a,ns,k,rfl,h,hl,q⟩
local macro_rules | `(tactic| walk_at "rd1")=>`(tactic| ((with_reducible refine' zgr ?h1 ?h2 ?_);(case h1=>walk_at "hp");(case h2=>omega)))
local macro_rules | `(tactic| walk_at "rd1")=>`(tactic| (with_reducible refine zjn ?_))
local macro_rules | `(tactic| walk_at "rd1")=>`(tactic| (with_reducible refine zgm ?_))
local macro_rules | `(tactic| walk_at "rd1")=>`(tactic| (with_reducible refine r_fs ?_))
local macro_rules | `(tactic| walk_at "rd1")=>`(tactic| (with_reducible refine r_je ?_))
local macro_rules | `(tactic| walk_at "sz")=>`(tactic| (simp only [zaU,len_emp,sizeLine_eq,ll_paper,ll_reader,ll_step,ll_enter,ll_open,ll_sp];omega))
local macro_rules | `(tactic| walk_at "rd1")=>`(tactic| ((with_reducible refine' r_jl ?h1 ?_);(case h1=>walk_at "sz")))
local macro_rules | `(tactic| walk_at "rd1")=>`(tactic| ((with_reducible refine' r_jn ?h1 ?_);(case h1=>walk_at "sz")))
local macro_rules | `(tactic| walk_at "rd1")=>`(tactic| ((with_reducible refine' zh3 ?h1 ?h2 ?_);(case h1=>exact zh1 (by assumption));(case h2=>walk_at "sz")))
local macro_rules | `(tactic| walk_at "rds")=>`(tactic| repeat (first | walk_at "rd1" | (with_reducible refine iteF ?_) | (with_reducible refine iteT ?_) | (refine zbm (fun h=>absurd h (by decide +kernel)) (fun _=>?_)) | (refine zbm (fun _=>?_) (fun h=>absurd (by decide +kernel) h))))
def zdc (K:PySem.W.Frag):Sp:=fun vs H Q _=>vs.length=1∧∃ b:Bool,vs=[.bl b]∧Q (.str (Rf.say (if b=true then .unknown else .time))) H
theorem zfs (T:Txt K mg t):FnOk P w K mg base CX0 1 t.f_70 t.d_70 ["_law_dealt"] (zdc K):=by
 refine T.F_70.ok sc_70 (fun _ _ _ _ h=>h.1) fun cdv A outer s H vs Q E hr h=>by
  refine ⟨_,(zac (zaK (zaL (K:=K) rfl (pv 0) (fun _=>rfl))
   (zae (zaj zax)) pss_nil)
   (zae (zaj zax))),?_⟩
  obtain ⟨_,b,rfl,q⟩:=h
  cases b
  ·walk_at "rdk";exact q
  ·walk_at "rdk";exact q
theorem zfX {H:Hp} {b:Bool} {Q:VK} {E:XK} (q:Q (.str (Rf.say (if b=true then .unknown else .time))) H):zdc K [.bl b] H Q E:=⟨rfl,b,rfl,q⟩
local macro_rules | `(tactic| walk_at "rd1")=>`(tactic| (with_reducible refine r_eq3I ?_))
local macro_rules | `(tactic| walk_at "rd1")=>`(tactic| (with_reducible refine r_eq3B ?_))
local macro_rules | `(tactic| walk_at "rd1")=>`(tactic| (with_reducible refine r_eq3S ?_))
local macro_rules | `(tactic| walk_at "rd1")=>`(tactic| (with_reducible refine r_ne3I ?_))
local macro_rules | `(tactic| walk_at "rd1")=>`(tactic| (with_reducible refine r_ne3B ?_))
local macro_rules | `(tactic| walk_at "rd1")=>`(tactic| (with_reducible refine zjj ?_))
def zcx (c l m:Int):Int:=if c % 5=1 then l-1 else if c % 5=2 then m+1 else if c % 5=3 then c / 5 else l+c / 5 % (if m-l+1 > 1 then m-l+1 else 1)
def zdJ (K:PySem.W.Frag):Sp:=fun vs H Q _=>vs.length=3∧∃ c l m:Int,vs=[.int c,.int l,.int m]∧Q (.int (zcx c l m)) H
theorem zfY (T:Txt K mg t):FnOk P w K mg base CX0 1 t.f_66 t.d_66 ["_law_cell","_law_least","_law_most"] (zdJ K):=by
 refine T.F_66.ok sc_66 (fun _ _ _ _ h=>h.1) fun cdv A outer s H vs Q E hr h=>by
  refine ⟨_,(zac (zaK (zah (zaM (K:=K) rfl hr.units0) (zav (op_mod) (pv 0) zad) zad (zat _))
   (zae (zaj (zav (op_sub) (pv 1) zad))) pss_nil)
   (zac (zaK (zah (zaM (K:=K) rfl hr.units0) (zav (op_mod) (pv 0) zad) zad (zat _))
   (zae (zaj (zav (op_addG) (pv 2) zad))) pss_nil)
   (zac (zaK (zah (zaM (K:=K) rfl hr.units0) (zav (op_mod) (pv 0) zad) zad (zat _))
   (zae (zaj (zav (op_fdivB) (pv 0) zad))) pss_nil)
   (zae (zaj (zav (op_addG) (pv 1) (zav (op_mod) (zav (op_fdivB) (pv 0) zad) (zar (zgE rfl) (by rfl) T.z_max (by rfl) (zaa zad (zaa (zav (op_addG) (zav (op_sub) (pv 2) (pv 1)) zad) pa_nil)))))))))),?_⟩
  obtain ⟨_,c,l,m,rfl,q⟩:=h;unfold zcx at q;symm;refine zbm (fun h1=>?_) (fun h1=>?_)
  ·symm;rw [if_pos h1] at q;exact q
  ·rw [if_neg h1] at q;symm;refine zbm (fun h2=>?_) (fun h2=>?_)
   ·symm;rw [if_pos h2] at q;exact q
   ·rw [if_neg h2] at q;symm;refine zbm (fun h3=>?_) (fun h3=>?_)
    ·symm;rw [if_pos h3] at q;exact q
    ·rw [if_neg h3] at q;have hp:0 < (if m-l+1 > 1 then m-l+1 else 1):=by split <;> omega
     symm;exact q
theorem zci {H:Hp} {c l m:Int} {Q:VK} {E:XK} (q:Q (.int (zcx c l m)) H):zdJ K [.int c,.int l,.int m] H Q E:=⟨rfl,c,l,m,rfl,q⟩
theorem zcy {b:Bool} {w:Str} {fs:List Str} {p4:Addr} {H0 H1:Hp} (s:Same H0 H1) (h4:H0 p4=none) (e:H1 p4=some (.lst (fs.map V.str))) {P:Hp→Prop} (k:∀ H',Same H0 H'→H' p4=some (.lst ((fs++one b w).map V.str))→P H') :
  (b=true→∀ H',But p4 H1 H'→H' p4=some (.lst (fs.map V.str++[.str w]))→P H')∧(b=false→P H1):=by
 refine ⟨fun hb H' b1 e1=>k H' (s.but b1 h4) ?_,fun hb=>k H1 s ?_⟩
 ·rw [e1,hb,zlU,List.map_append];rfl
 ·rw [e,hb,zlV,List.append_nil]
def zeL (st:ExS):Option Dd→List Str
 | some d=>zcv st d
 | none=>one (timB st) "time"
def zbA (K:PySem.W.Frag):Sp:=fun vs H Q _=>vs.length=4∧∃ (o:Addr) (st:ExS) (d:Option Dd),vs=[.bl (timB st),.int st.hs.length,.int st.rs.length,.ref o]∧H o=some (.lst ((rowO d).map V.int))∧∀ b H',H b=none→Same H H'→H' b=some (.lst ((zeL st d).map V.str))→Q (.ref b) H'
theorem zcz (T:Txt K mg t):FnOk P w K mg base CX0 1 t.f_67 t.d_67 ["_law_dealt","_law_many","_law_count","_law_todo"] (zbA K):=by
 refine T.F_67.ok sc_67 (fun _ _ _ _ h=>h.1) fun cdv A outer s H vs Q E hr h=>by
  refine ⟨_,(zac (zaF (i:=4) sc_67.nd rfl (Or.inl rfl) (zaB pa_nil))
   (zac (zaK (zaL (K:=K) rfl (pv 0) (fun _=>rfl))
   (zae (zaz (zaT (K:=K) rfl PySem.F.plainAttrs_list PySem.F.slot_list_append PySem.F.type_list_append mt_append (pv 4) (zaa zax pa_nil)))) pss_nil)
   (zac (zaK (zcG (zah (zaM (K:=K) rfl hr.units0) (zaD (zag (K:=K) rfl) (pv 3) zad (fun _ _=>rfl)) zad (zat _)) (zb4 (zdi (zah (op_lt) (zaD (zag (K:=K) rfl) (pv 3) zad (fun _ _=>rfl)) zad (zat _)) (zcn (zah (op_gt) (zaD (zag (K:=K) rfl) (pv 3) zad (fun _ _=>rfl)) zad (zat _)))).pt)).pt
   (zae (zaz (zaT (K:=K) rfl PySem.F.plainAttrs_list PySem.F.slot_list_append PySem.F.type_list_append mt_append (pv 4) (zaa zax pa_nil)))) pss_nil)
   (zac (zaK (zcG (zah (zaM (K:=K) rfl hr.units0) (zaD (zag (K:=K) rfl) (pv 3) zad (fun _ _=>rfl)) zad (zat _)) (zb4 (zdi (zah (op_lt) (zaD (zag (K:=K) rfl) (pv 3) zad (fun _ _=>rfl)) zad (zat _)) (zcn (zah (op_gt) (zaD (zag (K:=K) rfl) (pv 3) zad (fun _ _=>rfl)) zad (zat _)))).pt)).pt
   (zae (zaz (zaT (K:=K) rfl PySem.F.plainAttrs_list PySem.F.slot_list_append PySem.F.type_list_append mt_append (pv 4) (zaa zax pa_nil)))) pss_nil)
   (zac (zaK (zcG (zah (zaM (K:=K) rfl hr.units0) (zaD (zag (K:=K) rfl) (pv 3) zad (fun _ _=>rfl)) zad (zat _)) (zb4 (zdi (zah (op_lt) (zaD (zag (K:=K) rfl) (pv 3) zad (fun _ _=>rfl)) zad (zat _)) (zcn (zah (op_gt) (zaD (zag (K:=K) rfl) (pv 3) zad (fun _ _=>rfl)) zad (zat _)))).pt)).pt
   (zae (zaz (zaT (K:=K) rfl PySem.F.plainAttrs_list PySem.F.slot_list_append PySem.F.type_list_append mt_append (pv 4) (zaa zax pa_nil)))) pss_nil)
   (zac (zaK (zcG (zah (zaM (K:=K) rfl hr.units0) (zaD (zag (K:=K) rfl) (pv 3) zad (fun _ _=>rfl)) zad (zat _)) (zb4 (zdi (zah (op_lt) (zaD (zag (K:=K) rfl) (pv 3) zad (fun _ _=>rfl)) zad (zat _)) (zcn (zah (op_gt) (zaD (zag (K:=K) rfl) (pv 3) zad (fun _ _=>rfl)) zad (zat _)))).pt)).pt
   (zae (zaz (zaT (K:=K) rfl PySem.F.plainAttrs_list PySem.F.slot_list_append PySem.F.type_list_append mt_append (pv 4) (zaa zax pa_nil)))) pss_nil)
   (zac (zaK (zdi (zcG (zah (zaM (K:=K) rfl hr.units0) (zaD (zag (K:=K) rfl) (pv 3) zad (fun _ _=>rfl)) zad (zat _)) (zb4 (zah (op_ge) (pv 1) zad (zat _)))).pt (zcn (zcG (zah (zaM (K:=K) rfl hr.units0) (zaD (zag (K:=K) rfl) (pv 3) zad (fun _ _=>rfl)) zad (zat _)) (zb4 (zah (op_ge) (pv 2) zad (zat _)))).pt)).pt
   (zae (zaz (zaT (K:=K) rfl PySem.F.plainAttrs_list PySem.F.slot_list_append PySem.F.type_list_append mt_append (pv 4) (zaa zax pa_nil)))) pss_nil)
   (zae (zaj (pv 4)))))))))),?_⟩
  obtain ⟨_,o,st,d,rfl,eo,q⟩:=h;symm;refine zam (by decide) fun p4 H1 f4 s1 e4=>?_;have e4:H1 p4=some (.lst (([]:List Str).map V.str)):=e4;walk_at "st";refine zby (fun σ H'=>σ=[some (.bl (timB st)),some (.int st.hs.length),some (.int st.rs.length),some (.ref o),some (.ref p4)]∧Same H H'∧H' p4=some (.lst (([]++one (timB st) "time").map V.str))) ?_ ?_
  ·intro nx' hnx;have oc:=zcy (b:=timB st) (w:="time") s1 f4 e4 (P:=nx' _) fun H' s' e'=>hnx _ _ ⟨rfl,s',e'⟩;symm;refine zfN (fun hb=>?_) (fun hb=>?_)
   ·symm;refine zap e4 (by simp) fun H' b' e'=>?_;symm;exact oc.1 hb H' b' e'
   ·symm;exact oc.2 hb
  rintro σ H2 ⟨rfl,s2,e5⟩;rw [List.nil_append] at e5;have l1:(one (timB st) "time").length≤1:=by unfold one;split <;> decide
  have hcap:=s2 _ _ eo
  match d with
  | none =>
    have eo2:H2 o=some (.lst [.int 3]):=hcap;walk_at "rdk";exact q _ _ f4 s2 e5
  | some (.paper h) =>
    have eo2:H2 o=some (.lst [.int 0,.int h]):=hcap;walk_at "st";refine zby (fun σ H'=>σ=[some (.bl (timB st)),some (.int st.hs.length),some (.int st.rs.length),some (.ref o),some (.ref p4)]∧Same H H'∧H' p4=some (.lst ((one (timB st) "time"++one (unkB (.paper h:Dd)) "unknown").map V.str))) ?_ ?_
    ·intro nx' hnx;have oc:=zcy (b:=unkB (.paper h:Dd)) (w:="unknown") s2 f4 e5 (P:=nx' _) fun H' s' e'=>hnx _ _ ⟨rfl,s',e'⟩;walk_at "rdk";refine zdq (d:=decide (h > 6)) (fun _ Q' z=>?_) ?_
     ·walk_at "rd";exact z
     have hc:(decide (h < 1) || decide (h > 6))=unkB (.paper h:Dd):=by
      show _ = !(decide (1≤h) && decide (h≤6));rw [Bool.not_and,← decide_not,← decide_not]
      congr 1 <;> exact decide_eq_decide.mpr (by omega)
     rw [hc];refine zfN (fun hb=>?_) (fun hb=>?_)
     ·symm;refine zap e5 (by rw [List.length_map];omega) fun H' b' e'=>?_;symm;exact oc.1 hb H' b' e'
     ·symm;exact oc.2 hb
    rintro σ H3 ⟨rfl,s3,e6⟩;have l2:(one (timB st) "time"++one (unkB (.paper h:Dd)) "unknown").length≤2:=by unfold one;split <;> split <;> decide
    have eo3:H3 o=some (.lst [.int 0,.int h]):=s3 _ _ eo;have hfo:zeL st (some (.paper h))=one (timB st) "time"++one (unkB (.paper h:Dd)) "unknown"++one (fulB st (.paper h)) "full":=by
     show one _ _++one _ _++[]++one _ _=_;rw [List.append_nil]
    rw [hfo] at q;have oc:=zcy (b:=fulB st (.paper h:Dd)) (w:="full") s3 f4 e6 (P:=Q (.ref p4)) fun H' s' e'=>q p4 H' f4 s' e';have hc:decide ((st.hs.length:Int)≥10)=fulB st (.paper h:Dd):=by
     show _=decide (10≤st.hs.length);exact decide_eq_decide.mpr (by omega)
    walk_at "rdk";refine zbm (fun hb=>?_) (fun hb=>?_)
    ·refine iteT ?_;walk_at "rdk";refine zap e6 (by rw [List.length_map];omega) fun H' b' e'=>?_;symm;exact oc.1 (by rw [← hc];exact decide_eq_true hb) H' b' e'
    ·walk_at "rdk";exact oc.2 (by rw [← hc];exact decide_eq_false hb)
  | some (.reader h l) =>
    have eo2:H2 o=some (.lst [.int 1,.int h,.int l]):=hcap;walk_at "st";refine zby (fun σ H'=>σ=[some (.bl (timB st)),some (.int st.hs.length),some (.int st.rs.length),some (.ref o),some (.ref p4)]∧Same H H'∧H' p4=some (.lst ((one (timB st) "time").map V.str))) ?_ ?_
    ·intro nx' hnx;walk_at "rdk";exact hnx _ _ ⟨rfl,s2,e5⟩
    rintro σ H2' ⟨rfl,s2',e5'⟩;have eo2':H2' o=some (.lst [.int 1,.int h,.int l]):=s2' _ _ eo;walk_at "st";refine zby (fun σ H'=>σ=[some (.bl (timB st)),some (.int st.hs.length),some (.int st.rs.length),some (.ref o),some (.ref p4)]∧Same H H'∧H' p4=some (.lst ((one (timB st) "time"++one (unkB (.reader h l:Dd)) "unknown").map V.str))) ?_ ?_
    ·intro nx' hnx;have oc:=zcy (b:=unkB (.reader h l:Dd)) (w:="unknown") s2' f4 e5' (P:=nx' _) fun H' s' e'=>hnx _ _ ⟨rfl,s',e'⟩;walk_at "rdk";refine zdq (d:=decide (h > 6)) (fun _ Q' z=>?_) ?_
     ·walk_at "rd";exact z
     have hc:(decide (h < 0) || decide (h > 6))=unkB (.reader h l:Dd):=by
      show _ = !(decide (0≤h) && decide (h≤6));rw [Bool.not_and,← decide_not,← decide_not]
      congr 1 <;> exact decide_eq_decide.mpr (by omega)
     rw [hc];refine zfN (fun hb=>?_) (fun hb=>?_)
     ·symm;refine zap e5' (by rw [List.length_map];omega) fun H' b' e'=>?_;symm;exact oc.1 hb H' b' e'
     ·symm;exact oc.2 hb
    rintro σ H3 ⟨rfl,s3,e6⟩;have l2:(one (timB st) "time"++one (unkB (.reader h l:Dd)) "unknown").length≤2:=by unfold one;split <;> split <;> decide
    have eo3:H3 o=some (.lst [.int 1,.int h,.int l]):=s3 _ _ eo;walk_at "st";refine zby (fun σ H'=>σ=[some (.bl (timB st)),some (.int st.hs.length),some (.int st.rs.length),some (.ref o),some (.ref p4)]∧Same H H'∧H' p4=some (.lst ((one (timB st) "time"++one (unkB (.reader h l:Dd)) "unknown"++one (bndB (.reader h l:Dd)) "bounds").map V.str))) ?_ ?_
    ·intro nx' hnx;have oc:=zcy (b:=bndB (.reader h l:Dd)) (w:="bounds") s3 f4 e6 (P:=nx' _) fun H' s' e'=>hnx _ _ ⟨rfl,s',e'⟩;walk_at "rdk";refine zdq (d:=decide (l > 30)) (fun _ Q' z=>?_) ?_
     ·walk_at "rd";exact z
     have hc:(decide (l < 0) || decide (l > 30))=bndB (.reader h l:Dd):=by
      show _ = !(decide (0≤l) && decide (l≤30));rw [Bool.not_and,← decide_not,← decide_not]
      congr 1 <;> exact decide_eq_decide.mpr (by omega)
     rw [hc];refine zfN (fun hb=>?_) (fun hb=>?_)
     ·symm;refine zap e6 (by rw [List.length_map];omega) fun H' b' e'=>?_;symm;exact oc.1 hb H' b' e'
     ·symm;exact oc.2 hb
    rintro σ H4 ⟨rfl,s4,e7⟩;have l3:(one (timB st) "time"++one (unkB (.reader h l:Dd)) "unknown"++one (bndB (.reader h l:Dd)) "bounds").length≤3:=by unfold one;split <;> split <;> split <;> decide
    have eo4:H4 o=some (.lst [.int 1,.int h,.int l]):=s4 _ _ eo;have oc:=zcy (b:=fulB st (.reader h l:Dd)) (w:="full") s4 f4 e7 (P:=Q (.ref p4)) fun H' s' e'=>q p4 H' f4 s' e';have hc:decide ((st.rs.length:Int)≥8)=fulB st (.reader h l:Dd):=by
     show _=decide (8≤st.rs.length);exact decide_eq_decide.mpr (by omega)
    walk_at "rdk";refine zbm (fun hb=>?_) (fun hb=>?_)
    ·walk_at "rdk";refine zap e7 (by rw [List.length_map];omega) fun H' b' e'=>?_;symm;exact oc.1 (by rw [← hc];exact decide_eq_true hb) H' b' e'
    ·walk_at "rdk";exact oc.2 (by rw [← hc];exact decide_eq_false hb)
  | some (.step s) =>
    have eo2:H2 o=some (.lst [.int 2,.int s]):=hcap;have hfo:zeL st (some (.step s))=one (timB st) "time"++one (bndB (.step s)) "bounds":=by
     show one _ _++[]++one _ _++[]=_;rw [List.append_nil,List.append_nil]
    rw [hfo] at q;have oc:=zcy (b:=bndB (.step s:Dd)) (w:="bounds") s2 f4 e5 (P:=Q (.ref p4)) fun H' s' e'=>q p4 H' f4 s' e';have hc:(decide (s < 0) || decide (s > 100))=bndB (.step s:Dd):=by
     show _ = !(decide (0≤s) && decide (s≤100));rw [Bool.not_and,← decide_not,← decide_not]
     congr 1 <;> exact decide_eq_decide.mpr (by omega)
    walk_at "rdk";refine zdq (d:=decide (s > 100)) (fun _ Q' z=>?_) ?_
    ·walk_at "rd";exact z
    rw [hc];refine zfN (fun hb=>?_) (fun hb=>?_)
    ·symm;refine zap e5 (by rw [List.length_map];omega) fun H' b' e'=>?_;have eo3:H' o=some (.lst [.int 2,.int s]):=by rw [b' _ (fun z=>by rw [z,f4] at eo;cases eo)];exact eo2
     walk_at "rdk";exact oc.1 hb H' b' e'
    ·walk_at "rdk";exact oc.2 hb
theorem zcM {H:Hp} {o:Addr} {b:Bool} {m c:Int} (st:ExS) (d:Option Dd) {Q:VK} {E:XK} (hb:b=timB st) (hm:m=st.hs.length) (hc:c=st.rs.length) (eo:H o=some (.lst ((rowO d).map V.int))) (q:∀ b H',H b=none→Same H H'→H' b=some (.lst ((zeL st d).map V.str))→Q (.ref b) H'):zbA K [.bl b,.int m,.int c,.ref o] H Q E:=by
 subst hb hm hc;exact ⟨rfl,o,st,d,rfl,eo,q⟩
theorem zi4 {f:Rf} (h:f=.time∨f=.unknown∨f=.bounds∨f=.full):∃ v:Str,valV (litK [("time","out of time"),("unknown","unknown number"),("bounds","out of bounds"),("full","full")]) (Sum.inr f.word:Key)=some (.str v)∧Str.ofString "refused: "++v=f.say∧v.length≤100:=by
 rcases h with rfl | rfl | rfl | rfl
 ·exact ⟨"out of time",by rfl,by decide +kernel,by decide +kernel⟩
 ·exact ⟨"unknown number",by rfl,by decide +kernel,by decide +kernel⟩
 ·exact ⟨"out of bounds",by rfl,by decide +kernel,by decide +kernel⟩
 ·exact ⟨"full",by rfl,by decide +kernel,by decide +kernel⟩
theorem zlr {c:Int}:inV (.int c) [.int 3,.int 4]=decide (c=3∨c=4):=by
 show ((3 == c) || ((4 == c) || false))=_;rw [Bool.or_false]
 by_cases h1:c=3
 ·subst h1;decide
 ·by_cases h2:c=4
  ·subst h2;decide
  ·rw [decide_eq_false (by omega),Bool.or_eq_false_iff];exact ⟨by simpa using fun z=>h1 z.symm,by simpa using fun z=>h2 z.symm⟩
def zcp (K:PySem.W.Frag):Sp:=fun vs H Q _=>vs.length=5∧∃ (cell more:Int) (a b:Addr) (ps:List Addr) (st:ExS),vs=[.int cell,.int more,.ref a,.ref b,.bl (timB st)]∧Ldg H a b ps st.hs st.rs∧D31 st∧0≤cell∧cell < 10 ^ 25∧0≤more∧more < 10 ^ 25∧∀ (o:Addr) H' (ps':List Addr) (t:Str) (d:Dd),Fr2 a b H H'→H o=none→H' o=some (.lst [.str t,.str ((Act.bring d).ans st)])→Ldg H' a b ps' ((Act.bring d).next st).hs ((Act.bring d).next st).rs→(∀ p∈ps',p∈ps∨H p=none)→RowT t (Act.bring d).words→(Act.bring d).ok st→Q (.ref o) H'
theorem zd6 (T:Txt K mg t):FnOk P w K mg base CX0 2 t.f_69 t.d_69 ["_law_cell","_law_more","_law_homes","_law_staff","_law_dealt"] (zcp K):=by
 have G_66:=zfY (P:=P) (w:=w) (base:=base) T;have G_67:=zcz (P:=P) (w:=w) (base:=base) T;refine T.F_69.ok sc_69 (fun _ _ _ _ h=>h.1) fun cdv A outer s H vs Q E hr h=>by
  refine ⟨_,(zac (zaF (i:=5) sc_69.nd rfl (Or.inl rfl) (zaB (zaa zad (zaa (zan G_66 (hr.mono (by decide)) (by rfl) T.m_66 T.F_66.kp T.b_66 .nil zaI (zaa (zav (op_fdivB) (pv 0) zad) (zaa zad (zaa zad pa_nil)))) pa_nil))))
   (zac (zaF (i:=6) sc_69.nd rfl (Or.inl rfl) (zav (op_addG) zax (zaG (zaS (K:=K) rfl) (by rfl) T.z_str (by rfl) (zaa (zaD (zag (K:=K) rfl) (pv 5) zad (fun _ _=>rfl)) pa_nil))))
   (zac (zaF (i:=7) sc_69.nd rfl (Or.inl rfl) (zav (op_addG) (zar (zao (K:=K) rfl) (by rfl) T.z_len (by rfl) (zaa (pv 2) pa_nil)) zad))
   (zac (zaK (zah (zhT (K:=K) rfl (zhs hr)) (zav (op_mod) (pv 0) zad) (zkv (zaa zad (zaa zad pa_nil))) (by with_unfolding_all rfl))
   (zac (zaF (i:=5) sc_69.nd rfl (Or.inl rfl) (zaB (zaa zad (zaa (zan G_66 (hr.mono (by decide)) (by rfl) T.m_66 T.F_66.kp T.b_66 .nil zaI (zaa (zav (op_fdivB) (pv 0) zad) (zaa zad (zaa zad pa_nil)))) (zaa (zan G_66 (hr.mono (by decide)) (by rfl) T.m_66 T.F_66.kp T.b_66 .nil zaI (zaa (pv 1) (zaa zad (zaa zad pa_nil)))) pa_nil)))))
   (zac (zaF (i:=6) sc_69.nd rfl (Or.inl rfl) (zav (op_addG) (zav (op_addG) (zav (op_addG) zax (zaG (zaS (K:=K) rfl) (by rfl) T.z_str (by rfl) (zaa (zaD (zag (K:=K) rfl) (pv 5) zad (fun _ _=>rfl)) pa_nil))) zax) (zaG (zaS (K:=K) rfl) (by rfl) T.z_str (by rfl) (zaa (zaD (zag (K:=K) rfl) (pv 5) zad (fun _ _=>rfl)) pa_nil))))
   (zae (zaF (i:=7) sc_69.nd rfl (Or.inl rfl) (zav (op_addG) (zar (zao (K:=K) rfl) (by rfl) T.z_len (by rfl) (zaa (pv 3) pa_nil)) zad))))) pss_nil)
   (zac (zaK (zah (zaM (K:=K) rfl hr.units0) (zav (op_mod) (pv 0) zad) zad (zat _))
   (zac (zaF (i:=5) sc_69.nd rfl (Or.inl rfl) (zaB (zaa zad (zaa (zan G_66 (hr.mono (by decide)) (by rfl) T.m_66 T.F_66.kp T.b_66 .nil zaI (zaa (zav (op_fdivB) (pv 0) zad) (zaa zad (zaa zad pa_nil)))) pa_nil))))
   (zac (zaF (i:=6) sc_69.nd rfl (Or.inl rfl) (zav (op_addG) zax (zaG (zaS (K:=K) rfl) (by rfl) T.z_str (by rfl) (zaa (zaD (zag (K:=K) rfl) (pv 5) zad (fun _ _=>rfl)) pa_nil))))
   (zae (zaF (i:=7) sc_69.nd rfl (Or.inl rfl) (zaD (zag (K:=K) rfl) (pv 5) zad (fun _ _=>rfl)))))) pss_nil)
   (zac (zaF (i:=8) sc_69.nd rfl (Or.inl rfl) (zan G_67 (hr.mono (by decide)) (by rfl) T.m_67 T.F_67.kp T.b_67 .nil zaI (zaa (pv 4) (zaa (zar (zao (K:=K) rfl) (by rfl) T.z_len (by rfl) (zaa (pv 2) pa_nil)) (zaa (zar (zao (K:=K) rfl) (by rfl) T.z_len (by rfl) (zaa (pv 3) pa_nil)) (zaa (pv 5) pa_nil))))))
   (zac (zaF (i:=9) sc_69.nd rfl (Or.inl rfl) (zkc (LitP.cons (LitP.cons (LitP.cons (LitP.cons LitP.nil)))) (by simp) (by simp) (by decide +kernel)))
   (zac (zaK (zah (op_gt) (zar (zao (K:=K) rfl) (by rfl) T.z_len (by rfl) (zaa (pv 8) pa_nil)) zad (zat _))
   (zae (zaj (zaB (zaa (pv 6) (zaa (zav (op_addG) zax (zjI (zhs hr) (pv 9) (zaD (zag (K:=K) rfl) (pv 8) zad (fun _ _=>rfl)) (fun _ _=>rfl))) pa_nil))))) pss_nil)
   (zac (zaK (zah (zaM (K:=K) rfl hr.units0) (zaD (zag (K:=K) rfl) (pv 5) zad (fun _ _=>rfl)) zad (zat _))
   (zae (zaz (zaT (K:=K) rfl PySem.F.plainAttrs_list PySem.F.slot_list_append PySem.F.type_list_append mt_append (pv 2) (zaa (zaD (zag (K:=K) rfl) (pv 5) zad (fun _ _=>rfl)) pa_nil)))) pss_nil)
   (zac (zaK (zah (zaM (K:=K) rfl hr.units0) (zaD (zag (K:=K) rfl) (pv 5) zad (fun _ _=>rfl)) zad (zat _))
   (zae (zaz (zaT (K:=K) rfl PySem.F.plainAttrs_list PySem.F.slot_list_append PySem.F.type_list_append mt_append (pv 3) (zaa (zcf (zcg (K:=K) rfl) (pv 5) (zc1 zad) po_none) pa_nil)))) pss_nil)
   (zae (zaj (zaB (zaa (pv 6) (zaa (zaG (zaS (K:=K) rfl) (by rfl) T.z_str (by rfl) (zaa (pv 7) pa_nil)) pa_nil))))))))))))))),?_⟩
  obtain ⟨_,cell,more,a,b,ps,st,rfl,L,DD,c0,c1,m0,m1,q⟩:=h;have BB:=DD.inb;have B1:=BB.lp;have B2:=BB.lr;have hpl:=L.len;have ha:=L.ha;have hb:=L.hb;have w1:(zcx (cell / 8) 1 6).natAbs < 10 ^ 40:=zdu (by omega) (by omega) (by decide) (by decide) (by decide) (by decide);have w2:(zcx (cell / 8) 0 6).natAbs < 10 ^ 40:=zdu (by omega) (by omega) (by decide) (by decide) (by decide) (by decide);have w3:(zcx more 0 30).natAbs < 10 ^ 40:=zdu (by omega) (by omega) (by decide) (by decide) (by decide) (by decide);have w4:(zcx (cell / 8) 0 100).natAbs < 10 ^ 40:=zdu (by omega) (by omega) (by decide) (by decide) (by decide) (by decide);have l1:=za8 w1;have l2:=za8 w2;have l3:=za8 w3;have l4:=za8 w4;have E5:∀ {x y:Int},Str.ofString "reader "++tS x++Str.ofString " "++tS y=((Str.ofString "reader "++tS x)++" ")++tS y:=rfl;symm;refine zci ?_;symm;refine zam (by simp) fun o1 H1 f1 s1 e1=>?_;have e1:H1 o1=some (.lst [.int 0,.int (zcx (cell / 8) 1 6)]):=e1;have ha1:=s1 _ _ ha;have hb1:=s1 _ _ hb;symm;refine zbz w1 ?_;refine zc5 (by rw [sizeLine_eq,ll_paper];omega) ?_;walk_at "st";refine ziD ?_;walk_at "st";refine zby (fun σ H'=>∃ (d:Dd) (o:Addr) (t:Str),σ=[some (.int cell),some (.int more),some (.ref a),some (.ref b),some (.bl (timB st)),some (.ref o),some (.str t),some (.int (d.ans st)),none,none]∧Same H H'∧H o=none∧H' o=some (.lst (d.row.map V.int))∧RowT t (Act.bring d).words∧(Act.bring d).ok st) ?_ ?_
  ·intro nx' hnx;symm;refine ziR (by simp) fun pt H2 f2 s2 e2=>?_;symm;refine zjp (.inl (.inl e2)) rfl rfl ?_;rw [zlr];have s12:=s1.trans s2;have hb2:=s12 _ _ hb;symm;refine zbm (fun z=>?_) (fun z=>?_)
   ·symm;refine zci ?_;symm;refine zci ?_;symm;refine zam (by simp) fun o3 H3 f3 s3 e3=>?_;have e3:H3 o3=some (.lst [.int 1,.int (zcx (cell / 8) 0 6),.int (zcx more 0 30)]):=e3;have hb3:=s3 _ _ hb2;symm;refine zbz w2 ?_;refine zc5 (by rw [sizeLine_eq,ll_reader];omega) ?_;symm;refine zc5 (by rw [sizeLine_eq,zaU,ll_reader,ll_sp];omega) ?_;symm;refine zbz w3 ?_;refine zc5 (by rw [sizeLine_eq,zaU,zaU,ll_reader,ll_sp];omega) ?_;symm;rw [hpl];refine hnx _ _ ⟨.reader (zcx (cell / 8) 0 6) (zcx more 0 30),o3,_,rfl,s12.trans s3,s12.free f3,e3,zel w2 w3,fun i hi=>?_⟩;rcases List.mem_cons.mp hi with z | z
    ·rw [z];exact w2
    ·rw [List.mem_singleton.mp z];exact w3
   ·symm;exact hnx _ _ ⟨.paper (zcx (cell / 8) 1 6),o1,_,rfl,s12,f1,s2 _ _ e1,zfp w1,fun i hi=>by rw [List.mem_singleton.mp hi];exact w1⟩
  rintro σ H2 ⟨d2,o2,t2,rfl,s2,f2,e2,hr2,hok2⟩;walk_at "st";refine zby (fun σ H'=>∃ (d:Dd) (o:Addr) (t:Str),σ=[some (.int cell),some (.int more),some (.ref a),some (.ref b),some (.bl (timB st)),some (.ref o),some (.str t),some (.int (d.ans st)),none,none]∧Same H H'∧H o=none∧H' o=some (.lst (d.row.map V.int))∧RowT t (Act.bring d).words∧(Act.bring d).ok st) ?_ ?_
  ·intro nx' hnx;symm;refine zbm (fun z=>?_) (fun z=>?_)
   ·symm;refine zci ?_;symm;refine zam (by simp) fun o3 H3 f3 s3 e3=>?_;have e3:H3 o3=some (.lst [.int 2,.int (zcx (cell / 8) 0 100)]):=e3;symm;refine zbz w4 ?_;refine zc5 (by rw [sizeLine_eq,ll_step];omega) ?_;symm;exact hnx _ _ ⟨.step (zcx (cell / 8) 0 100),o3,_,rfl,s2.trans s3,s2.free f3,e3,zi3 w4,fun i hi=>by rw [List.mem_singleton.mp hi];exact w4⟩
   ·symm;exact hnx _ _ ⟨d2,o2,t2,rfl,s2,f2,e2,hr2,hok2⟩
  clear s1 e1 f1 ha1 hb1 e2 s2 hr2 hok2 f2;rintro σ H3 ⟨d,o3,t,rfl,s3,fo3,e3,hr3,hok3⟩;have ha3:=s3 _ _ ha;have hb3:=s3 _ _ hb;have hfw:=zgQ st d;have hfl:=zgR st d;symm;refine zcM st (some d) rfl rfl (by rw [hpl]) e3 fun pf H4 f4 s4 e4=>?_;have e4:H4 pf=some (.lst ((zcv st d).map V.str)):=e4;symm;refine zll fun pd H5 f5 s5 e5=>?_;have e45:=s5 _ _ e4;have S5:=(s3.trans s4).trans s5;have L5:=L.same S5;have ha5:=L5.ha;have hb5:=L5.hb;have e35:=s5 _ _ (s4 _ _ e3);rcases hfw with ⟨hf0,hwn⟩ | ⟨f,r,hwf,hfe⟩
  ·rw [hf0] at e45;obtain ⟨z1,z2⟩:=zbN hwn;have hres:∀ (o:Addr) H' (ps':List Addr),Fr2 a b H H'→H o=none→H' o=some (.lst [.str t,.str (tS (d.ans st))])→Ldg H' a b ps' (d.done st).hs (d.done st).rs→(∀ p∈ps',p∈ps∨H p=none)→Q (.ref o) H':=fun o H' ps' f fo eo L' hp=>q o H' ps' t d f fo (by rw [z1];exact eo) (by rw [z2];exact L') hp hr3 hok3;symm;refine zbm (fun z=>absurd z (by simp)) (fun _=>?_)
   cases d with
   | paper h =>
     have e35:H5 o3=some (.lst [.int 0,.int h]):=e35;walk_at "rdk";refine zap ha5 (by rw [List.length_map];omega) fun H6 b6 e6=>?_;have e36:H6 o3=some (.lst [.int 0,.int h]):=by rw [b6 _ (zaf ha fo3).symm];exact e35
     have L6:=L5.paper b6 e6;walk_at "rdk";refine zbz (show ((st.hs.length:Int)+1).natAbs < 10 ^ 40 by omega) ?_;symm;refine zam (by simp) fun o H7 f7 s7 e7=>?_;have oa:o≠a:=fun z=>by rw [z,e6] at f7;cases f7
     have f5o:H5 o=none:=by rw [← b6 _ oa];exact f7
     exact hres o H7 ps (((Fr2.of S5).butA b6).same s7) (S5.free f5o) e7 (L6.same s7) fun p hp=>.inl hp
   | reader h l =>
     have e35:H5 o3=some (.lst [.int 1,.int h,.int l]):=e35;walk_at "rdk";refine zbx (SqL.of e35) fun r H6 f6 s6 e6=>?_;rw [zh9] at e6;have e6:H6 r=some (.lst (([h,l]:List Int).map V.int)):=e6;have hb6:=s6 _ _ hb5;symm;refine zap hb6 (by rw [List.length_map];omega) fun H7 b7 e7=>?_;have L7:=L5.reader f6 s6 e6 b7 e7;symm;refine zbz (show ((st.rs.length:Int)+1).natAbs < 10 ^ 40 by omega) ?_;symm;refine zam (by simp) fun o H8 f8 s8 e8=>?_;have ob:o≠b:=fun z=>by rw [z,e7] at f8;cases f8
     have f7o:H6 o=none:=by rw [← b7 _ ob];exact f8
     refine hres o H8 (ps++[r]) (((Fr2.of (S5.trans s6)).butB b7).same s8) ((S5.trans s6).free f7o) e8 (L7.same s8) fun p hp=>?_;rcases List.mem_append.mp hp with z | z
     ·exact .inl z
     ·rw [List.mem_singleton.mp z];exact .inr (S5.free f6)
   | step s =>
     have e35:H5 o3=some (.lst [.int 2,.int s]):=e35;walk_at "rdk";refine zbz (hok3 s (by simp [Dd.nums])) ?_;symm;refine zam (by simp) fun o H7 f7 s7 e7=>?_;exact hres o H7 ps (Fr2.of (S5.trans s7)) (S5.free f7) e7 (L5.same s7) fun p hp=>.inl hp
  ·rw [hfe] at e45;have e45:H5 pf=some (.lst (.str f.word::r.map V.str)):=e45;obtain ⟨v,hv,hs',hvl⟩:=zi4 (f:=f) (zka (d:=some d) hwf);obtain ⟨z1,z2⟩:=Act.ans_ref (a:=.bring d) hwf;symm;refine zbm (fun _=>?_) (fun z=>absurd (by rw [List.length_cons];omega) z);symm;refine zdj (SqL.of e45) zh8 ?_;symm;refine zgS e5 hv ?_;symm;refine zc5 (by rw [sizeLine_eq,show (Str.ofString "refused: ").length=9 by decide +kernel];omega) ?_;rw [hs'];symm;refine zam (by simp) fun o H7 f7 s7 e7=>?_;exact q o H7 ps t d (Fr2.of (S5.trans s7)) (S5.free f7) (by rw [z1];exact e7) (by rw [z2];exact L5.same s7) (fun p hp=>.inl hp) hr3 hok3
theorem zcN {H:Hp} {cell more:Int} {a b:Addr} {dd:Bool} {ps:List Addr} (st:ExS) {Q:VK} {E:XK} (hd:dd=timB st) (L:Ldg H a b ps st.hs st.rs) (D:D31 st) (c0:0≤cell) (c1:cell < 10 ^ 25) (m0:0≤more) (m1:more < 10 ^ 25) (q:∀ (o:Addr) H' (ps':List Addr) (t:Str) (d:Dd),Fr2 a b H H'→H o=none→H' o=some (.lst [.str t,.str ((Act.bring d).ans st)])→Ldg H' a b ps' ((Act.bring d).next st).hs ((Act.bring d).next st).rs→(∀ p∈ps',p∈ps∨H p=none)→RowT t (Act.bring d).words→(Act.bring d).ok st→Q (.ref o) H'):zcp K [.int cell,.int more,.ref a,.ref b,.bl dd] H Q E:=by subst hd;exact ⟨rfl,cell,more,a,b,ps,st,rfl,L,D,c0,c1,m0,m1,q⟩
def zcq (K:PySem.W.Frag):Sp:=fun vs H Q _=>vs.length=2∧∃ (a:Addr) (st:ExS),vs=[.ref a,.bl st.dl.isSome]∧H a=some (.lst (st.hs.map V.int))∧∀ o H',H o=none→Same H H'→H' o=some (.lst [.str "deal",.str (Act.deal.ans st)])→Q (.ref o) H'
theorem zd7 (T:Txt K mg t):FnOk P w K mg base CX0 1 t.f_71 t.d_71 ["_law_homes","_law_dealt"] (zcq K):=by
 refine T.F_71.ok sc_71 (fun _ _ _ _ h=>h.1) fun cdv A outer s H vs Q E hr h=>by
  refine ⟨_,(zac (zaK (zaL (K:=K) rfl (pv 1) (fun _=>rfl))
   (zae (zaj (zaB (zaa zax (zaa zax pa_nil))))) pss_nil)
   (zae (zaj (zaB (zaa zax (zaa (zaD (zag (K:=K) rfl) (zaB (zaa zax (zaa zax pa_nil))) (zaG (zcJ (K:=K) rfl) (by rfl) T.z_int (by rfl) (zaa (zb8 (op_gt) (zar (zao (K:=K) rfl) (by rfl) T.z_len (by rfl) (zaa (pv 0) pa_nil)) zad (zat _)) pa_nil)) (fun _ _=>rfl)) pa_nil)))))),?_⟩
  obtain ⟨_,a,st,rfl,ha,q⟩:=h;symm;refine zfN (fun hb=>?_) (fun hb=>?_)
  ·symm;refine zam (by decide) fun o H1 f1 s1 e1=>?_;refine q o H1 f1 s1 ?_;rw [e1,show Act.deal.ans st=Rf.say .time from if_pos hb];rfl
  ·have hd:st.dl=none:=zeH (by rw [hb];decide);obtain ⟨z1,_⟩:=zeK hd;symm;refine zam (by decide) fun o1 H1 f1 s1 e1=>?_;have ha1:=s1 _ _ ha;symm
   cases hh:st.hs with
   | nil =>
     rw [hh] at ha1 z1;rw [if_pos rfl] at z1;have e1:H1 o1=some (.lst [.str "dealt",.str "no dealing"]):=e1;symm;refine zam (by decide) fun o H2 f2 s2 e2=>?_;refine q o H2 (s1.free f2) (s1.trans s2) ?_;rw [e2,z1]
   | cons x xs =>
     rw [hh] at ha1 z1;rw [if_neg (by simp)] at z1;symm;rw [decide_eq_true (show (0:Int) < ((x::xs).length:Int) by rw [List.length_cons];omega),if_pos rfl];refine zdj (SqL.of e1) rfl ?_;symm;refine zam (by decide) fun o H2 f2 s2 e2=>?_;refine q o H2 (s1.free f2) (s1.trans s2) ?_;rw [e2,z1]
theorem zeM {H:Hp} {a:Addr} {b:Bool} (st:ExS) {Q:VK} {E:XK} (hb:b=st.dl.isSome) (ha:H a=some (.lst (st.hs.map V.int))) (q:∀ o H',H o=none→Same H H'→H' o=some (.lst [.str "deal",.str (Act.deal.ans st)])→Q (.ref o) H'):zcq K [.ref a,.bl b] H Q E:=by subst hb;exact ⟨rfl,a,st,rfl,ha,q⟩
def zdd (K:PySem.W.Frag):Sp:=fun vs H Q _=>vs.length=4∧∃ (k:Int) (a b:Addr) (ps:List Addr) (st:ExS),vs=[.int k,.ref a,.ref b,.bl st.dl.isSome]∧Ldg H a b ps st.hs st.rs∧D31 st∧0≤k∧k < 5∧∀ o H',H o=none→Same H H'→H' o=some (.lst [.str (qOf k).word,.str ((qOf k).ans st)])→Q (.ref o) H'
theorem zft (T:Txt K mg t):FnOk P w K mg base CX0 1 t.f_68 t.d_68 ["_law_kind","_law_homes","_law_staff","_law_dealt"] (zdd K):=by
 refine T.F_68.ok sc_68 (fun _ _ _ _ h=>h.1) fun cdv A outer s H vs Q E hr h=>by
  refine ⟨_,(zac (zaF (i:=4) sc_68.nd rfl (Or.inl rfl) (zaB (zaa zax pa_nil)))
   (zac (zaK (zah (zaM (K:=K) rfl hr.units0) (pv 0) zad (zat _))
   (zae (zaj (zaB (zaa zax (zaa (zaT (K:=K) rfl PySem.F.plainAttrs_str PySem.F.slot_str_join PySem.F.type_str_join (zeJ (K:=K) rfl) zax (zaa (zav (op_addG) (za6 (zau (sc:=zab s_68) (XN:=["_law_kind","_law_homes","_law_staff","_law_dealt","_law_none"]) (N:=["_law_one"]) (own:=1) (js:=[]) rfl rfl (by decide +kernel)) rfl (zaR (K:=K) rfl (pv 2)) (fun _ _ _ _ _=>(zaA (i:=0) (show List.Nodup [(Str.ofString "_law_one")] by decide +kernel) rfl (Or.inl rfl))) (fun _ _ _ _ _=>za5) (fun _ _ _ _ _=>(zaG (zaS (K:=K) rfl) (by rfl) T.z_str (by rfl) (zaa (zaD (zag (K:=K) rfl) (pv 0) zad (fun _ _=>rfl)) pa_nil)))) (zcf (zcg (K:=K) rfl) (pv 4) (zc1 (zar (zao (K:=K) rfl) (by rfl) T.z_len (by rfl) (zaa (pv 2) pa_nil))) po_none)) pa_nil)) pa_nil))))) pss_nil)
   (zac (zaK (zah (zaM (K:=K) rfl hr.units0) (pv 0) zad (zat _))
   (zae (zaj (zaB (zaa zax (zaa (zaT (K:=K) rfl PySem.F.plainAttrs_str PySem.F.slot_str_join PySem.F.type_str_join (zeJ (K:=K) rfl) zax (zaa (zav (op_addG) (za6 (zau (sc:=zab s_68) (XN:=["_law_kind","_law_homes","_law_staff","_law_dealt","_law_none"]) (N:=["_law_k"]) (own:=1) (js:=[]) rfl rfl (by decide +kernel)) rfl (zb5 (by rfl) T.z_range (zaa (zar (zao (K:=K) rfl) (by rfl) T.z_len (by rfl) (zaa (pv 1) pa_nil)) pa_nil)) (fun _ _ _ _ _=>(zaA (i:=0) (show List.Nodup [(Str.ofString "_law_k")] by decide +kernel) rfl (Or.inl rfl))) (fun _ _ _ _ _=>za5) (fun _ _ _ _ _=>(zc4 (zbV (zav (op_addG) (pv 0) zad) (zbU pj_nil))))) (zcf (zcg (K:=K) rfl) (pv 4) (zc1 (zar (zao (K:=K) rfl) (by rfl) T.z_len (by rfl) (zaa (pv 1) pa_nil))) po_none)) pa_nil)) pa_nil))))) pss_nil)
   (zac (zaK (zah (zaM (K:=K) rfl hr.units0) (pv 0) zad (zat _))
   (zae (zaj (zaB (zaa zax (zaa zax pa_nil))))) pss_nil)
   (zac (zaK (zah (zaM (K:=K) rfl hr.units0) (pv 0) zad (zat _))
   (zae (zaj (zaB (zaa zax (zaa (zaD (zag (K:=K) rfl) (zaB (zaa zax (zaa zax pa_nil))) (zaG (zcJ (K:=K) rfl) (by rfl) T.z_int (by rfl) (zaa (pv 3) pa_nil)) (fun _ _=>rfl)) pa_nil))))) pss_nil)
   (zac (zaK (zah (zaM (K:=K) rfl hr.units0) (pv 1) (zaB pa_nil) (zat _))
   (zae (zaj (zaB (zaa zax (zaa zax pa_nil))))) pss_nil)
   (zae (zaj (zaB (zaa zax (zaa zax pa_nil))))))))))),?_⟩
  obtain ⟨_,k,a,b,ps,st,rfl,L,DD,k0,k5,q⟩:=h;have BB:=DD.inb;have B1:=BB.lp;have B2:=BB.lr;have hpl:=L.len;have ha:=L.ha;have hb:=L.hb;symm;refine zam (by decide) fun o1 H1 f1 s1 e1=>?_;have ha1:=s1 _ _ ha;have hb1:=s1 _ _ hb;rcases (show k=0∨k=1∨k=2∨k=3∨k=4 by omega) with rfl | rfl | rfl | rfl | rfl
  ·walk_at "rdk";have L1:=L.same s1;refine zba (SqL.of hb1) ?_;refine za0 (zaZ (SqL.of hb1)) (zaH (by rw [List.length_map];omega)) (fun _=>true) (fun i=>.str (tS ((st.rs.getD i []).getD 1 0))) (fun i H' Q' hi s q'=>q') (fun i H' Q' hi s _ q'=>?_) fun p2 hp2=>?_
   ·rw [List.length_map] at hi;have ex:((ps.map V.ref).getD i .non)=.ref (ps.getD i 0):=by rw [List.getD_eq_getElem?_getD,List.getElem?_map,List.getElem?_eq_getElem hi,List.getD_eq_getElem?_getD,List.getElem?_eq_getElem hi];rfl
    rw [ex];show (_:TE) (some (.ref _)::_) _ _;have hrow:=s _ _ (L1.row i (by omega));have h2:=BB.r2 i (by omega);have hrl:=BB.rl i (by omega);symm;exact zbz (i:=(st.rs.getD i []).getD 1 0) (by omega) q'
   rw [List.filter_eq_self.mpr (fun _ _=>rfl),List.length_map,hpl];have em:(List.range st.rs.length).map (fun i=>V.str (tS ((st.rs.getD i []).getD 1 0)))=(st.rs.map fun r=>tS (r.getD 1 0)).map V.str:=by
    conv=>rhs;rw [← za4 st.rs []]
    rw [List.map_map,List.map_map];rfl
   rw [em];have e2:(upd H1 p2 (.lst ((st.rs.map fun r=>tS (r.getD 1 0)).map V.str))) p2=some (.lst ((st.rs.map fun r=>tS (r.getD 1 0)).map V.str)):=zaq;have s2:Same H1 (upd H1 p2 (.lst ((st.rs.map fun r=>tS (r.getD 1 0)).map V.str))):=zaC hp2;generalize upd H1 p2 (.lst ((st.rs.map fun r=>tS (r.getD 1 0)).map V.str))=H2 at e2 s2;have e12:=s2 _ _ e1;have hb2:=s2 _ _ hb1;symm;refine zbx (SqL.of e12) fun p3 H3 f3 s3 e3=>?_;rw [hpl,zic] at e3;have e3:H3 p3=some (.lst ((if st.rs.length=0 then [("none" : Str)] else []).map V.str)):=by
    rw [e3];split <;> rfl
   symm;refine zez (s3 _ _ e2) e3 (by rw [List.length_map,List.length_map,List.length_map];split <;> simp <;> omega) fun p4 H4 f4 s4 e4=>?_;rw [← List.map_append] at e4;have hx:∀ x∈(st.rs.map fun r=>tS (r.getD 1 0))++(if st.rs.length=0 then [("none" : Str)] else []),x.length≤1000:=fun x hx=>by
    rcases List.mem_append.mp hx with z | z
    ·obtain ⟨r,hr,rfl⟩:=List.mem_map.mp z;obtain ⟨i,hi,rfl⟩:=L2.mem_getD (d:=[]) hr;have:=BB.rl i hi;have:=za8 (i:=(st.rs.getD i []).getD 1 0) (by omega);show (tS ((st.rs.getD i []).getD 1 0)).length≤_;omega
    ·split at z
     ·rw [List.mem_singleton.mp z];decide +kernel
     ·cases z
   have hx2:((st.rs.map fun r=>tS (r.getD 1 0))++(if st.rs.length=0 then [("none" : Str)] else [])).length≤1000:=by
    rw [List.length_append,List.length_map];split <;> simp <;> omega
   symm;refine zdG (SqL.of e4) (zbM hx hx2).1 (zbM hx hx2).2 ?_;have eg:=zfq (st.rs.map fun r=>tS (r.getD 1 0));rw [List.length_map] at eg;rw [eg];symm;refine zam (by simp) fun o H5 f5 s5 e5=>?_;have S:=((s1.trans s2).trans s3).trans s4;exact q o H5 (S.free f5) (S.trans s5) e5
  ·walk_at "rdk";refine ze6 (by omega) (by omega) ?_;refine za0 (zch _ _ _) (zaH (by omega)) (fun _=>true) (fun i=>.str (opnT ((i:Int)+1))) (fun i H' Q' hi s q'=>q') (fun i H' Q' hi s _ q'=>?_) fun p2 hp2=>?_
   ·have hi:i < st.hs.length:=by simpa using hi
    have hn:((0:Int)+(i:Int)+1).natAbs < 10 ^ 40:=by omega
    have htl:(Str.ofString (toString ((0:Int)+(i:Int)+1))).length≤41:=za8 hn;symm;rw [show (0:Int)+(i:Int)+1=(i:Int)+1 by omega];exact q'
   rw [List.filter_eq_self.mpr (fun _ _=>rfl)];have em:(List.range ((st.hs.length:Int)).toNat).map (fun i:Nat=>V.str (opnT ((i:Int)+1)))=((List.range st.hs.length).map fun i:Nat=>opnT ((i:Int)+1)).map V.str:=by
    rw [Int.toNat_natCast,List.map_map];rfl
   rw [em];have e2:(upd H1 p2 (.lst (((List.range st.hs.length).map fun i:Nat=>opnT ((i:Int)+1)).map V.str))) p2=some (.lst (((List.range st.hs.length).map fun i:Nat=>opnT ((i:Int)+1)).map V.str)):=zaq;have s2:Same H1 (upd H1 p2 (.lst (((List.range st.hs.length).map fun i:Nat=>opnT ((i:Int)+1)).map V.str))):=zaC hp2;generalize upd H1 p2 (.lst (((List.range st.hs.length).map fun i:Nat=>opnT ((i:Int)+1)).map V.str))=H2 at e2 s2;have e12:=s2 _ _ e1;have ha2:=s2 _ _ ha1;symm;refine zbx (SqL.of e12) fun p3 H3 f3 s3 e3=>?_;rw [zic] at e3;have e3:H3 p3=some (.lst ((if st.hs.length=0 then [("none" : Str)] else []).map V.str)):=by
    rw [e3];split <;> rfl
   symm;refine zez (s3 _ _ e2) e3 (by rw [List.length_map,List.length_map,List.length_map,List.length_range];split <;> simp <;> omega) fun p4 H4 f4 s4 e4=>?_;rw [← List.map_append] at e4;have hx:∀ x∈((List.range st.hs.length).map fun i:Nat=>opnT ((i:Int)+1))++(if st.hs.length=0 then [("none" : Str)] else []),x.length≤1000:=fun x hx=>by
    rcases List.mem_append.mp hx with z | z
    ·obtain ⟨i,hi,rfl⟩:=List.mem_map.mp z;have:=List.mem_range.mp hi;exact Nat.le_trans (zh5 (by omega)) (by decide)
    ·split at z
     ·rw [List.mem_singleton.mp z];decide +kernel
     ·cases z
   have hx2:(((List.range st.hs.length).map fun i:Nat=>opnT ((i:Int)+1))++(if st.hs.length=0 then [("none" : Str)] else [])).length≤1000:=by
    rw [List.length_append,List.length_map,List.length_range];split <;> simp <;> omega
   symm;refine zdG (SqL.of e4) (zbM hx hx2).1 (zbM hx hx2).2 ?_;have eg:=zfq ((List.range st.hs.length).map fun i:Nat=>opnT ((i:Int)+1));rw [List.length_map,List.length_range] at eg;rw [eg];symm;refine zam (by simp) fun o H5 f5 s5 e5=>?_;have S:=((s1.trans s2).trans s3).trans s4;exact q o H5 (S.free f5) (S.trans s5) e5
  ·walk_at "rdk";refine zam (by decide) fun o H5 f5 s5 e5=>?_;exact q o H5 (s1.free f5) (s1.trans s5) e5
  ·walk_at "rdk";refine zam (by decide) fun o2 H2 f2 s2 e2=>?_;symm
   cases hd:st.dl.isSome with
   | false =>
     symm;refine zam (by decide) fun o H5 f5 s5 e5=>?_;refine q o H5 ((s1.trans s2).free f5) ((s1.trans s2).trans s5) ?_;rw [e5,show (qOf 3).ans st = "not dealt" from if_neg (by rw [hd];decide)];rfl
   | true =>
     symm;refine zam (by decide) fun o H5 f5 s5 e5=>?_;refine q o H5 ((s1.trans s2).free f5) ((s1.trans s2).trans s5) ?_;rw [e5,show (qOf 3).ans st = "none" from if_pos hd];rfl
  ·walk_at "rdk";refine zam (by decide) fun o2 H2 f2 s2 e2=>?_;have ha2:=s2 _ _ ha1;symm;refine zhS (SqL.of ha2) (SqL.of e2) ?_;symm;refine zbm (fun z=>?_) (fun z=>?_)
   ·have h0:st.hs=[]:=List.map_eq_nil_iff.mp z;symm;refine zam (by decide) fun o H5 f5 s5 e5=>?_;refine q o H5 ((s1.trans s2).free f5) ((s1.trans s2).trans s5) ?_;rw [e5,show (qOf 4).ans st = "none" from if_pos h0];rfl
   ·have h0:st.hs≠[]:=fun y=>z (by rw [y];rfl);symm;refine zam (by decide) fun o H5 f5 s5 e5=>?_;refine q o H5 ((s1.trans s2).free f5) ((s1.trans s2).trans s5) ?_;rw [e5,show (qOf 4).ans st = "1" from if_neg h0];rfl
theorem zbB {H:Hp} {k:Int} {a b:Addr} {dd:Bool} {ps:List Addr} (st:ExS) {Q:VK} {E:XK} (hd:dd=st.dl.isSome) (L:Ldg H a b ps st.hs st.rs) (D:D31 st) (k0:0≤k) (k5:k < 5) (q:∀ o H',H o=none→Same H H'→H' o=some (.lst [.str (qOf k).word,.str ((qOf k).ans st)])→Q (.ref o) H'):zdd K [.int k,.ref a,.ref b,.bl dd] H Q E:=by subst hd;exact ⟨rfl,k,a,b,ps,st,rfl,L,D,k0,k5,q⟩
def zbW (K:PySem.W.Frag) (C:Addr):Sp:=fun vs H Q _=>vs.length=1∧∃ (x dx:Addr),vs=[.ref x]∧H x=some (.ins C dx [])∧∀ H' F,(∀ b o,H b=some o→b≠x→b≠dx→H' b=some o)→(∀ b,F b→b=x∨b=dx∨H b=none)→ExAt C H' x F ⟨[],[],0,none⟩→Q .non H'
theorem zdk (T:Txt K mg t):FnOk P w K mg base CX0 1 t.f_30 t.d_30 ["self"] (zbW K t.C_Exam):=by
 refine T.F_30.ok sc_30 (fun _ _ _ _ h=>h.1) fun cdv A outer s H vs Q E hr h=>by
  refine ⟨_,(zac (zbK (K:=K) rfl (pv 0) (zaB pa_nil))
   (zac (zbK (K:=K) rfl (pv 0) (zaB pa_nil))
   (zac (zbK (K:=K) rfl (pv 0) zad)
   (zac (zbK (K:=K) rfl (pv 0) zeV)
   (zac (zbK (K:=K) rfl (pv 0) (zaB pa_nil))
   (zae (zbK (K:=K) rfl (pv 0) (zaB pa_nil)))))))),?_⟩
  obtain ⟨_,x,dx,rfl,hx,q⟩:=h;have hcl:=T.cl_Exam;have nA:=T.n_Exam_paper_houses;have nB:=T.n_Exam_reader_rows;have nS:=T.n_Exam_widest_step;have nD:=T.n_Exam_is_dealt;have nC:=T.n_Exam_named_readers;have nE:=T.n_Exam_entered_points;symm;refine zam (by decide) fun a H1 f1 s1 e1=>?_;have x1:=s1 _ _ hx;symm;refine zbb x1 hcl nA (Nat.lt_of_lt_of_le (show 0 < 1 by decide) (by decide)) fun H2 b2 x2=>?_;have xa:=zaf hx f1;symm;refine zam (by decide) fun b H3 f3 s3 e3=>?_;have x3:=s3 _ _ x2;symm;have e2:H2 a=some (.lst []):=by rw [b2 _ xa.symm];exact e1
  have ab:=zaf e2 f3;have xb:=zaf x2 f3;refine zbb x3 hcl nB (Nat.lt_of_lt_of_le (zbt (show 0 < 1 by decide)) (by decide)) fun H4 b4 x4=>?_;symm;refine zbb x4 hcl nS (Nat.lt_of_lt_of_le (zbt (zbt (show 0 < 1 by decide))) (by decide)) fun H5 b5 x5=>?_;symm;refine zbb x5 hcl nD (Nat.lt_of_lt_of_le (zbt (zbt (zbt (show 0 < 1 by decide)))) (by decide)) fun H6 b6 x6=>?_;symm;refine zam (by decide) fun c H7 f7 s7 e7=>?_;have x7:=s7 _ _ x6;have a6:H6 a=some (.lst []):=by rw [b6 _ xa.symm,b5 _ xa.symm,b4 _ xa.symm];exact s3 _ _ e2
  have b6':H6 b=some (.lst []):=by rw [b6 _ xb.symm,b5 _ xb.symm,b4 _ xb.symm];exact e3
  have ac:=zaf a6 f7;have bc:=zaf b6' f7;have xc:=zaf x6 f7;symm;refine zbb x7 hcl nC (Nat.lt_of_lt_of_le (zbt (zbt (zbt (zbt (show 0 < 1 by decide))))) (by decide)) fun H8 b8 x8=>?_;have a8:H8 a=some (.lst []):=by rw [b8 _ xa.symm];exact s7 _ _ a6
  have b8':H8 b=some (.lst []):=by rw [b8 _ xb.symm];exact s7 _ _ b6'
  have c8:H8 c=some (.lst []):=by rw [b8 _ xc.symm];exact e7
  symm;refine zam (by decide) fun d H9 f9 s9 e9=>?_;have x9:=s9 _ _ x8;have ad:=zaf a8 f9;have bd:=zaf b8' f9;have cd:=zaf c8 f9;have xd:=zaf x8 f9;symm;refine zbb x9 hcl nE (Nat.lt_of_lt_of_le (zbt (zbt (zbt (zbt (zbt (show 0 < 1 by decide)))))) (by decide)) fun H10 b10 x10=>?_;symm;rw [exFs_mk] at x10;have kp:∀ b o,H b=some o→b≠x→H10 b=some o:=fun z o h n=>by
   rw [b10 _ n];refine s9 _ _ ?_;rw [b8 _ n];refine s7 _ _ ?_;rw [b6 _ n,b5 _ n,b4 _ n];refine s3 _ _ ?_;rw [b2 _ n];exact s1 _ _ h
  have nn:∀ b,H2 b=none→H b=none:=fun z h=>by
   cases hz:H z with
   | none=>rfl
   | some o =>
     by_cases n:z=x
     ·rw [n,x2] at h;cases h
     ·rw [b2 _ n,s1 _ _ hz] at h;cases h
  have nn6:∀ b,H6 b=none→H b=none:=fun z h=>nn z (by
   cases hz:H2 z with
   | none=>rfl
   | some o =>
     by_cases n:z=x
     ·rw [n,x6] at h;cases h
     ·rw [b6 _ n,b5 _ n,b4 _ n,s3 _ _ hz] at h;cases h)
  have nn8:∀ b,H8 b=none→H b=none:=fun z h=>nn6 z (by
   cases hz:H6 z with
   | none=>rfl
   | some o =>
     by_cases n:z=x
     ·rw [n,x8] at h;cases h
     ·rw [b8 _ n,s7 _ _ hz] at h;cases h)
  have J:ExIn t.C_Exam H10 ⟨x,dx,a,b,c,d,[],[],[]⟩ ⟨[],[],0,none⟩ []:=by
   refine ⟨x10,by show H10 a=_;rw [b10 _ xa.symm];exact s9 _ _ a8,by show H10 b=_;rw [b10 _ xb.symm];exact s9 _ _ b8',by show H10 c=_;rw [b10 _ xc.symm];exact s9 _ _ c8,by show H10 d=_;rw [b10 _ xd.symm];exact e9,rfl,rfl,rfl,fun i hi=>absurd hi (by simp),fun i hi=>absurd hi (by simp [ExS.nm]),fun i hi=>absurd hi (by simp [ExS.nm]),fun i hi=>absurd hi (by simp [ExS.nm]),fun i hi=>absurd hi (by simp [ExS.nm]),rfl,?_,⟨fun z=>(by cases z),fun k hk=>absurd hk (by simp [ExS.nm]),fun k r p z=>(by cases z),by decide⟩⟩;unfold ExAd.own;simp only [List.nodup_cons,List.mem_cons,List.append_nil,List.not_mem_nil,not_or,not_false_iff,List.nodup_nil,and_true];exact ⟨⟨xa,xb,xc,xd⟩,⟨ab,ac,ad⟩,⟨bc,bd⟩,cd⟩
  refine q H10 _ (fun z o h n _=>kp z o h n) (fun z h=>?_) J.at;unfold ExAd.own at h;simp only [List.mem_cons,List.append_nil,List.not_mem_nil,or_false] at h;rcases h with h | h | h | h | h
  ·exact .inl h
  ·exact .inr (.inr (h▸f1))
  ·exact .inr (.inr (h▸nn _ f3))
  ·exact .inr (.inr (h▸nn6 _ f7))
  ·exact .inr (.inr (h▸nn8 _ f9))
theorem zfZ {K:PySem.W.Frag} {C x dx:Addr} {H:Hp} {Q:VK} {E:XK} (h:H x=some (.ins C dx [])) (q:∀ H' F,(∀ b o,H b=some o→b≠x→b≠dx→H' b=some o)→(∀ b,F b→b=x∨b=dx∨H b=none)→ExAt C H' x F ⟨[],[],0,none⟩→Q .non H'):zbW K C [.ref x] H Q E:=⟨rfl,x,dx,rfl,h,q⟩
def zcO (K:PySem.W.Frag):Sp:=fun vs H Q _=>vs.length=1∧∃ (a:Addr) (xs:List Str),vs=[.ref a]∧SqL K H a (xs.map V.str)∧(∀ x∈xs,x.length≤1000)∧xs.length≤1000∧Q (.str (rowT xs)) H
theorem zbR (T:Txt K mg t):FnOk P w K mg base CX0 1 t.f_60 t.d_60 ["parts"] (zcO K):=by
 refine T.F_60.ok sc_60 (fun _ _ _ _ h=>h.1) fun cdv A outer s H vs Q E hr h=>by
  refine ⟨_,(zac (zaK (zah (zaM (K:=K) rfl hr.units0) (zar (zao (K:=K) rfl) (by rfl) T.z_len (by rfl) (zaa (pv 0) pa_nil)) zad (zat _))
   (zae (zaj zax)) pss_nil)
   (zae (zaj (zaT (K:=K) rfl PySem.F.plainAttrs_str PySem.F.slot_str_join PySem.F.type_str_join (zeJ (K:=K) rfl) zax (zaa (pv 0) pa_nil))))),?_⟩
  obtain ⟨_,a,xs,rfl,ha,hx,hl,q⟩:=h;symm;rw [List.length_map]
  cases xs with
  | nil =>
    refine zbm (fun _=>?_) (fun z=>absurd rfl z);symm;exact q
  | cons p ps =>
    refine zbm (fun z=>absurd z (by rw [List.length_cons];omega)) (fun _=>?_);symm;exact zdG ha (zbM hx hl).1 (zbM hx hl).2 q
theorem zbf {H:Hp} {a:Addr} {xs:List Str} {Q:VK} {E:XK} (h:SqL K H a (xs.map V.str)) (hx:∀ x∈xs,x.length≤1000) (hl:xs.length≤1000) (q:Q (.str (rowT xs)) H):zcO K [.ref a] H Q E:=⟨rfl,a,xs,rfl,h,hx,hl,q⟩
def zdK (K:PySem.W.Frag):Sp:=fun vs H Q _=>vs.length=3∧False
theorem zdL (T:Txt K mg t):FnOk P w K mg base CX0 1 t.f_61 t.d_61 ["paper","first","second"] (zdK K):=by
 exact T.F_61.ok sc_61 (fun _ _ _ _ h=>h.1) fun _ _ _ _ _ _ _ _ _ h=>h.2.elim
def zdM (K:PySem.W.Frag):Sp:=fun vs H Q _=>vs.length=1∧∃ v:V,vs=[v]∧((v=.non∧Q (.str "not dealt") H)∨∃ p,v=.ref p∧H p=some (.lst [])∧∀ H',Same H H'→Q (.str "none") H')
theorem zdN (T:Txt K mg t):FnOk P w K mg base CX0 2 t.f_58 t.d_58 ["rows"] (zdM K):=by
 have G_60:=zbR (P:=P) (w:=w) (base:=base) T;have G_61:=zdL (P:=P) (w:=w) (base:=base) T;refine T.F_58.ok sc_58 (fun _ _ _ _ h=>h.1) fun cdv A outer s H vs Q E hr h=>by
  refine ⟨_,(zac (zaK (zah (op_isNN) (pv 0) zb2 (zat _))
   (zae (zaj zax)) pss_nil)
   (zae (zaj (zan G_60 (hr.mono (by decide)) (by rfl) T.m_60 T.F_60.kp T.b_60 .nil zaI (zaa (za6 (zau (sc:=zab s_58) (XN:=["rows"]) (N:=["paper","row"]) (own:=2) (js:=[]) rfl rfl (by decide +kernel)) rfl (zeE (K:=K) rfl (by rfl) T.z_enumerate (zaa (pv 0) pa_nil)) (fun _ _ _ _ _=>(zeC (K:=K) (n:=2) rfl rfl (zbG (zaA (i:=0) (show List.Nodup [(Str.ofString "paper"),(Str.ofString "row")] by decide +kernel) rfl (Or.inl rfl)) (zbG (zaA (i:=1) (show List.Nodup [(Str.ofString "paper"),(Str.ofString "row")] by decide +kernel) rfl (Or.inl rfl)) pgs_nil)))) (fun _ _ _ _ _=>za5) (fun _ _ _ _ _=>(zan G_61 (hr.mono (by decide)) (by rfl) T.m_61 T.F_61.kp T.b_61 .nil zaI (zaa (pv 0) (zaa (zaD (zag (K:=K) rfl) (pv 1) zad (fun _ _=>rfl)) (zaa (zaD (zag (K:=K) rfl) (pv 1) zad (fun _ _=>rfl)) pa_nil)))))) pa_nil))))),?_⟩
  obtain ⟨_,v,rfl,⟨rfl,q⟩ | ⟨p,rfl,hp,q⟩⟩:=h
  ·symm;rw [decide_eq_true (rfl:V.non=V.non)];refine iteT ?_;symm;exact q
  ·symm;rw [decide_eq_false (show ¬V.ref p=V.non by intro z;cases z)];refine iteF ?_;symm;refine zdt (SqL.of hp) ?_;refine zcI (zcl.enum (SqL.of hp)) (by decide) (fun _=>true) (fun _=>.non) (fun i H' Q' _ _ q'=>q' _ (Same.refl _)) (fun i H' Q' hi s _ q'=>absurd hi (by simp)) fun p2 H2 f s e=>?_;symm;exact zbf (xs:=[]) (SqL.of e) (fun x hx=>absurd hx (by simp)) (by decide) (q H2 s)
def zbC (K:PySem.W.Frag) (C:Addr):Sp:=fun vs H Q _=>vs.length=1∧∃ (x:Addr) (F:Addr→Prop) (st:ExS),vs=[.ref x]∧ExAt C H x F st∧InB st.hs st.rs∧((st.dl=none→∀ H',Same H H'→Q .non H')∧∀ nm en,st.dl=some (nm,en)→∀ p H',zaP H p (nm.map (List.take 2)) H'→Q (.ref p) H')
theorem zdO (T:Txt K mg t):FnOk P w K mg base CX0 1 t.f_40 t.d_40 ["self"] (zbC K t.C_Exam):=by
 refine T.F_40.ok sc_40 (fun _ _ _ _ h=>h.1) fun cdv A outer s H vs Q E hr h=>by
  refine ⟨_,(zac (zaK (zeW (zaL (K:=K) rfl (zaN (K:=K) rfl (pv 0)) (fun _=>rfl)))
   (zae (zaj zb2)) pss_nil)
   (zae (zaj (za6 (zau (sc:=zab s_40) (XN:=["self"]) (N:=["named"]) (own:=1) (js:=[]) rfl rfl (by decide +kernel)) rfl (zaR (K:=K) rfl (zaN (K:=K) rfl (pv 0))) (fun _ _ _ _ _=>(zaA (i:=0) (show List.Nodup [(Str.ofString "named")] by decide +kernel) rfl (Or.inl rfl))) (fun _ _ _ _ _=>za5) (fun _ _ _ _ _=>(zcf (zcg (K:=K) rfl) (pv 0) po_none (zc1 zad))))))),?_⟩
  obtain ⟨_,x,F,st,rfl,E0,BB,q⟩:=h;have B1:=BB.lp;have B2:=BB.lr;walk_at "hd";obtain ⟨q0,q1⟩:=q;have lq:=I.lq;have l10:=I.wf.n10 BB;symm
  cases hdl:st.dl with
  | none =>
    refine iteT ?_;symm;exact q0 hdl H (Same.refl H)
  | some d =>
    obtain ⟨nm,en⟩:=d;refine iteF ?_;rw [hdl] at hob;have fC:=@exFs_c (.ref e.a) (.ref e.b) (.int st.step) (.bl (some (nm,en)).isSome) (.ref e.c) (.ref e.d);have enm:st.nm=nm:=by unfold ExS.nm;rw [hdl];rfl
    rw [enm] at lq l10;have rq:=I.rq;rw [enm] at rq;symm;refine zba (SqL.of hhc) ?_;have hl:=q1;refine zds (zhJ (zcl.one (zaZ (SqL.of hhc))) (by rw [List.length_map];omega) (fun i=>(nm.getD i []).take 2) (fun i H' Q' hi s q'=>?_) fun p H2 R=>?_)
    ·rw [List.length_map,lq] at hi;have ex:(e.qs.map V.ref).getD i .non=.ref (e.qs.getD i 0):=by
      rw [List.getD_eq_getElem?_getD,List.getElem?_map,List.getElem?_eq_getElem (by omega),List.getD_eq_getElem?_getD,List.getElem?_eq_getElem (by omega)];rfl
     rw [ex];have hrow:=s _ _ (rq i hi);show (_:TE) (some (.ref (e.qs.getD i 0))::_) _ _;symm;refine zbx (SqL.of hrow) fun p2 H2 f2 s2 e2=>?_;rw [show cutV ((nm.getD i []).map V.int) none (some 2)=((nm.getD i []).map V.int).take 2 from zj0 2,← List.map_take] at e2;exact q' p2 H2 f2 s2 e2
    ·rw [List.length_map,lq] at R;have em:(List.range nm.length).map (fun i=>(nm.getD i []).take 2)=nm.map (List.take 2):=by
      refine List.ext_getElem (by simp) fun i h1 h2=>?_;simp at h1 ⊢;rw [List.getElem?_eq_getElem h1];rfl
     rw [em] at R;exact q1 nm en hdl p H2 R
theorem zd8 {K:PySem.W.Frag} {C x:Addr} {H:Hp} {F:Addr→Prop} {st:ExS} {Q:VK} {E:XK} (h:ExAt C H x F st) (B:InB st.hs st.rs) (q:((st.dl=none→∀ H',Same H H'→Q .non H')∧∀ nm en,st.dl=some (nm,en)→∀ p H',zaP H p (nm.map (List.take 2)) H'→Q (.ref p) H')):zbC K C [.ref x] H Q E:=⟨rfl,x,F,st,rfl,h,B,q⟩
theorem zd9 {K:PySem.W.Frag} {C x:Addr} {H:Hp} {F:Addr→Prop} {st:ExS} {Q:VK} {E:XK} {σ:L2.St} (h:ExAt C H x F st) (B:InB st.hs st.rs) (q:((st.dl=none→∀ H',Same H H'→Q .non H')∧∀ nm en,st.dl=some (nm,en)→∀ p H',zaP H p (nm.map (List.take 2)) H'→Q (.ref p) H')):zbw C "dealing" (zbC K C) E tNil σ (.ref x) H Q:=by
 obtain ⟨dx,fs,e,l⟩:=h.ob;exact za2 e (l _ (by decide +kernel)) (ze5 (zd8 h B q))
def zdP (K:PySem.W.Frag):Sp:=fun vs H Q _=>vs.length=1∧∃ v:V,vs=[v]∧((v=.non∧∀ H',Same H H'→Q (.str "none") H')∨∃ (p:Addr) (xs:List Int),v=.ref p∧H p=some (.lst (xs.map V.int))∧xs.length≤1000∧(∀ x∈xs,x.natAbs < 10 ^ 40)∧∀ H',Same H H'→Q (.str (rowT (xs.map tS))) H')
theorem zdQ (T:Txt K mg t):FnOk P w K mg base CX0 2 t.f_59 t.d_59 ["chosen"] (zdP K):=by
 have G_60:=zbR (P:=P) (w:=w) (base:=base) T;refine T.F_59.ok sc_59 (fun _ _ _ _ h=>h.1) fun cdv A outer s H vs Q E hr h=>by
  refine ⟨_,(zac (zaK (zah (op_isNN) (pv 0) zb2 (zat _))
   (zae (zaj (zan G_60 (hr.mono (by decide)) (by rfl) T.m_60 T.F_60.kp T.b_60 .nil zaI (zaa (zaB pa_nil) pa_nil)))) pss_nil)
   (zae (zaj (zan G_60 (hr.mono (by decide)) (by rfl) T.m_60 T.F_60.kp T.b_60 .nil zaI (zaa (za6 (zau (sc:=zab s_59) (XN:=["chosen"]) (N:=["paper"]) (own:=1) (js:=[]) rfl rfl (by decide +kernel)) rfl (zaR (K:=K) rfl (pv 0)) (fun _ _ _ _ _=>(zaA (i:=0) (show List.Nodup [(Str.ofString "paper")] by decide +kernel) rfl (Or.inl rfl))) (fun _ _ _ _ _=>za5) (fun _ _ _ _ _=>(zaG (zaS (K:=K) rfl) (by rfl) T.z_str (by rfl) (zaa (pv 0) pa_nil)))) pa_nil))))),?_⟩
  obtain ⟨_,v,rfl,⟨rfl,q⟩ | ⟨p,xs,rfl,hp,hl,hb,q⟩⟩:=h
  ·symm;rw [decide_eq_true (rfl:V.non=V.non)];refine iteT ?_;symm;refine zam (by decide) fun p1 H1 f1 s1 e1=>?_;symm;exact zbf (xs:=[]) (SqL.of e1) (fun x hx=>absurd hx (by simp)) (by decide) (q H1 s1)
  ·symm;rw [decide_eq_false (show ¬V.ref p=V.non by intro z;cases z)];refine iteF ?_;symm;refine zba (SqL.of hp) ?_;refine za0 (zaZ (SqL.of hp)) (zaH (by rw [List.length_map];omega)) (fun _=>true) (fun i=>.str (tS (xs.getD i 0))) (fun i H' Q' hi s q'=>q') (fun i H' Q' hi s _ q'=>?_) fun p2 hp2=>?_
   ·rw [List.length_map] at hi;have ex:((xs.map V.int).getD i .non)=.int (xs.getD i 0):=zfe hi;rw [ex];show (_:TE) (some (.int _)::_) _ _;symm;exact zbz (hb _ (getD_mem hi)) q'
   rw [List.filter_eq_self.mpr (fun _ _=>rfl),List.length_map];have em:(List.range xs.length).map (fun i=>V.str (tS (xs.getD i 0)))=(xs.map tS).map V.str:=by
    conv=>rhs;rw [← za4 xs 0]
    rw [List.map_map,List.map_map];rfl
   rw [em];have e2:(upd H p2 (.lst ((xs.map tS).map V.str))) p2=some (.lst ((xs.map tS).map V.str)):=zaq;symm;refine zbf (SqL.of e2) (fun x hx=>?_) (by rw [List.length_map];exact hl) (q _ (zaC hp2));obtain ⟨y,hy,rfl⟩:=List.mem_map.mp hx;have:=za8 (hb y hy);omega
def zbq (ns:List Int):Int:=(mxOf none ns).getD 0
def zcr (K:PySem.W.Frag):Sp:=fun vs H Q _=>vs.length=1∧∃ (a:Addr) (ns:List Int),vs=[.ref a]∧SqL K H a (ns.map V.int)∧Q (.int (zbq ns)) H
theorem zea (T:Txt K mg t):FnOk P w K mg base CX0 1 t.f_4 t.d_4 ["chosen"] (zcr K):=by
 refine T.F_4.ok sc_4 (fun _ _ _ _ h=>h.1) fun cdv A outer s H vs Q E hr h=>by
  refine ⟨_,(zae (zaj (zd5 (K:=K) rfl rfl (by rfl) T.z_max (pv 0) zad))),?_⟩;obtain ⟨_,a,ns,rfl,ha,q⟩:=h;symm;exact q
theorem zeN {H:Hp} {a:Addr} {ns:List Int} {Q:VK} {E:XK} (h:SqL K H a (ns.map V.int)) (q:Q (.int (zbq ns)) H):zcr K [.ref a] H Q E:=⟨rfl,a,ns,rfl,h,q⟩
def extB (m:Int) (c:List Int):List (List Int):=(List.range (m+1-(zbq c+1)).toNat).map fun i:Nat=>c++[zbq c+1+(i:Int)]
def zaQ (m:Int) (L:List (List Int)):List (List Int):=L.flatMap (extB m)
theorem zde (m:Int) (L:List (List Int)) (i:Nat) (h:i < L.length):zaQ m (L.take (i+1))=zaQ m (L.take i)++extB m (L.getD i []):=by
 unfold zaQ;rw [List.take_add_one,List.getElem?_eq_getElem h,List.flatMap_append,List.getD_eq_getElem?_getD,List.getElem?_eq_getElem h];simp
theorem zgU (m:Int) (L:List (List Int)) (i:Nat):(zaQ m (L.take i)).length≤(zaQ m L).length:=by
 have e:zaQ m L=zaQ m (L.take i)++zaQ m (L.drop i):=by
  unfold zaQ;rw [← List.flatMap_append,List.take_append_drop]
 rw [e,List.length_append];omega
def zbI (K:PySem.W.Frag):Sp:=fun vs H Q _=>vs.length=2∧∃ (a:Addr) (L:List (List Int)) (m:Int),vs=[.ref a,.int m]∧LL K H a L∧0≤m∧m≤10∧(zaQ m L).length≤1000∧(∀ i,i < L.length→(L.getD i []).length≤100∧0≤zbq (L.getD i [])∧zbq (L.getD i [])≤10)∧∀ (p:Addr) (H2:Hp),zaP H p (zaQ m L) H2→Q (.ref p) H2
theorem zcP (T:Txt K mg t):FnOk P w K mg base CX0 2 t.f_3 t.d_3 ["of_one_size","many"] (zbI K):=by
 have G_4:=zea (P:=P) (w:=w) (base:=base) T;refine T.F_3.ok sc_3 (fun _ _ _ _ h=>h.1) fun cdv A outer s H vs Q E hr h=>by
  refine ⟨_,(zac (zaF (i:=2) sc_3.nd rfl (Or.inl rfl) (zaB pa_nil))
   (zac (zb7 PassesOwn.never rfl (zaR (K:=K) rfl (pv 0)) (zaA (i:=3) sc_3.nd rfl (Or.inl rfl))
   (zae (zb7 PassesOwn.never rfl (zb6 (by rfl) T.z_range (zaa (zav (op_addG) (zan G_4 (hr.mono (by decide)) (by rfl) T.m_4 T.F_4.kp T.b_4 .nil zaI (zaa (pv 3) pa_nil)) zad) (zaa (zav (op_addG) (pv 1) zad) pa_nil))) (zaA (i:=4) sc_3.nd rfl (Or.inl rfl))
   (zae (zaz (zaT (K:=K) rfl PySem.F.plainAttrs_list PySem.F.slot_list_append PySem.F.type_list_append mt_append (pv 2) (zaa (zav (op_addG) (pv 3) (zaB (zaa (pv 4) pa_nil))) pa_nil)))))))
   (zae (zaj (pv 2))))),?_⟩
  obtain ⟨_,a,L,m,rfl,hL,m0,m1,hz,hg,q⟩:=h;obtain ⟨ps,hb,hl,hrow⟩:=id hL;symm;refine zam (by decide) fun p1 H1 f1 s1 e1=>?_;symm;refine zba (s1.seq hb) ?_;refine zeB (xs:=ps.map V.ref) (fun i σ H'=>∃ v w,σ=[some (.ref a),some (.int m),some (.ref p1),v,w]∧zaP H p1 (zaQ m (L.take i)) H') ⟨none,none,rfl,zaP.start f1 s1 e1⟩ ?_ ?_ ?_
  ·rintro i σ H' _ ⟨v,w,rfl,R⟩;exact R.same.seq hb
  ·rintro i x σ H' hx ⟨v,w,rfl,R⟩;have hi:i < ps.length:=by
    have:=(List.getElem?_eq_some_iff.mp hx).1;simpa using this
   have ex:x=.ref (ps.getD i 0):=by
    rw [List.getElem?_map,List.getElem?_eq_getElem hi] at hx;rw [List.getD_eq_getElem?_getD,List.getElem?_eq_getElem hi];exact (Option.some.inj hx).symm
   subst ex;have hc:=R.same _ _ (hrow i (by omega));obtain ⟨g1,g2,g3⟩:=hg i (by omega);symm;refine zeN (SqL.of hc) ?_;symm;refine ze7 ⟨by omega,by omega,by omega,by omega⟩ ?_;refine zej (fun j σ H'=>∃ w,σ=[some (.ref a),some (.int m),some (.ref p1),some (.ref (ps.getD i 0)),w]∧zaP H p1 (zaQ m (L.take i)++(extB m (L.getD i [])).take j) H') ⟨w,rfl,by rw [List.take_zero,List.append_nil];exact R⟩ ?_ ?_
   ·rintro j σ H3 hj ⟨w,rfl,R3⟩;have hc3:=R3.same _ _ (hrow i (by omega));obtain ⟨zs,hz3,hzl⟩:=R3.lst;have hlen:zs.length≤1000:=by
     rw [hzl,List.length_append];have e1:=zgU m L (i+1);rw [zde m L i (by omega),List.length_append] at e1;have e2:((extB m (L.getD i [])).take j).length≤(extB m (L.getD i [])).length:=by rw [List.length_take];omega
     omega
    symm;refine zam (by simp) fun q1 H4 f4 s4 e4=>?_;refine zez (s4 _ _ hc3) e4 (by rw [List.length_map];simp only [List.length_cons,List.length_nil];omega) fun q2 H5 f5 s5 e5=>?_;symm;have s45:=s4.trans s5;refine zap (s45 _ _ hz3) (by omega) fun H6 b6 e6=>?_;symm;refine ⟨_,rfl,?_⟩;have ej:(extB m (L.getD i [])).take (j+1)=(extB m (L.getD i [])).take j++[L.getD i []++[zbq (L.getD i [])+1+(j:Int)]]:=by
     have hjl:j < (extB m (L.getD i [])).length:=by unfold extB;rw [List.length_map,List.length_range];exact hj
     rw [List.take_add_one,List.getElem?_eq_getElem hjl];unfold extB;simp
    rw [ej,← List.append_assoc];refine R3.push (s4.free f5) s45 ?_ (s45 _ _ hz3) b6 e6;rw [e5,List.map_append];rfl
   ·rintro σ H3 ⟨w,rfl,R3⟩;refine ⟨_,_,rfl,?_⟩;rw [zde m L i (by omega)];have et:(extB m (L.getD i [])).take (m+1-(zbq (L.getD i [])+1)).toNat=extB m (L.getD i []):=by
     refine List.take_of_length_le ?_;unfold extB;rw [List.length_map,List.length_range];exact Nat.le_refl _
    rw [et] at R3;exact R3
  ·rintro σ H' ⟨v,w,rfl,R⟩;rw [List.length_map,hl,List.take_length] at R;symm;exact q p1 H' R
theorem zc6 {H:Hp} {a:Addr} {L:List (List Int)} {m:Int} {Q:VK} {E:XK} (h1:LL K H a L) (m0:0≤m) (m1:m≤10) (hz:(zaQ m L).length≤1000) (hg:∀ i,i < L.length→(L.getD i []).length≤100∧0≤zbq (L.getD i [])∧zbq (L.getD i [])≤10)
  (q:∀ (p:Addr) (H2:Hp),zaP H p (zaQ m L) H2→Q (.ref p) H2):zbI K [.ref a,.int m] H Q E:=⟨rfl,a,L,m,rfl,h1,m0,m1,hz,hg,q⟩
def aheadAll:List (List Int)→Bool
 | a::b::r=>zcb a b && aheadAll (b::r)
 | _=>true
def zf0 (m:Int):Nat→List (List Int)→Bool
 | 0,L=>L.isEmpty
 | n+1,L=>decide ((zaQ m L).length≤1000) && L.all (fun c=>decide (c.length≤100) && decide (0≤zbq c) && decide (zbq c≤10)) && zf0 m n (zaQ m L)
def allFrom (m:Int):Nat→List (List Int)→List (List Int)
 | 0,_=>[]
 | n+1,L=>L++allFrom m n (zaQ m L)
def zbL (m:Int):List (List Int):=allFrom m 11 [[]]
def chk (m:Nat):Bool:=zf0 m 11 [[]] && (let S:=zbL m;decide (S.length=2 ^ m) && S.all (zfb m 0) && aheadAll S)
theorem chk_all:(List.range 11).all chk=true:=by decide +kernel
theorem zjq {m:Int} (h0:0≤m) (h1:m≤10):zf0 m 11 [[]]=true∧(zbL m).length=2 ^ m.toNat∧(∀ xs∈zbL m,zfb m 0 xs=true)∧aheadAll (zbL m)=true:=by
 obtain ⟨n,rfl⟩:=Int.eq_ofNat_of_zero_le h0;have:=List.all_eq_true.mp chk_all n (List.mem_range.mpr (by omega));unfold chk at this;simp only [Bool.and_eq_true,decide_eq_true_eq,List.all_eq_true] at this;obtain ⟨a,⟨b,c⟩,d⟩:=this;exact ⟨a,b,c,d⟩
theorem zdR (m:Int):∀ n,allFrom m n []=[]
 | 0=>rfl
 | n+1=>zdR m n
structure Told (B:Hp) (p:Addr) (rs:List (List Int)) (H:Hp):Prop where
 same:Same B H
 new:B p=none
 rows:∃ ps:List Addr,H p=some (.lst (ps.map V.ref))∧ps.length=rs.length∧∀ i,i < rs.length→H (ps.getD i 0)=some (.lst ((rs.getD i []).map V.int))∧B (ps.getD i 0)=none∧ps.getD i 0≠p
theorem Told.ll {K:PySem.W.Frag} {B H:Hp} {p:Addr} {rs:List (List Int)} (R:Told B p rs H):LL K H p rs:=by
 obtain ⟨sb,hp,ps,h1,h2,h3⟩:=R;exact ⟨ps,SqL.of h1,h2,fun i hi=>(h3 i hi).1⟩
theorem Told.mono {B H H':Hp} {p:Addr} {rs:List (List Int)} (R:Told B p rs H) (s:Same H H'):Told B p rs H':=by
 obtain ⟨sb,hp,ps,h1,h2,h3⟩:=R;exact ⟨sb.trans s,hp,ps,s _ _ h1,h2,fun i hi=>⟨s _ _ (h3 i hi).1,(h3 i hi).2⟩⟩
theorem Told.ext {B H H3:Hp} {p:Addr} {rs rs2:List (List Int)} {ps qs:List Addr} (sb:Same B H) (hp:B p=none) (h1:H p=some (.lst (ps.map V.ref))) (h2:ps.length=rs.length)
  (h3:∀ i,i < rs.length→H (ps.getD i 0)=some (.lst ((rs.getD i []).map V.int))∧B (ps.getD i 0)=none∧ps.getD i 0≠p)
  (k2:qs.length=rs2.length) (k3:∀ i,i < rs2.length→H (qs.getD i 0)=some (.lst ((rs2.getD i []).map V.int))∧B (qs.getD i 0)=none∧qs.getD i 0≠p)
  (b:But p H H3) (e:H3 p=some (.lst (ps.map V.ref++qs.map V.ref))):Told B p (rs++rs2) H3:=by
 refine ⟨sb.but b hp,hp,ps++qs,by rw [e,List.map_append],by rw [List.length_append,List.length_append,h2,k2],fun i hi=>?_⟩;rw [List.length_append] at hi
 by_cases hlt:i < rs.length
 ·rw [zay (by omega),zay hlt];obtain ⟨a1,a2,a3⟩:=h3 i hlt;exact ⟨by rw [b _ a3];exact a1,a2,a3⟩
 ·obtain ⟨j,rfl⟩:∃ j,i=rs.length+j:=⟨i-rs.length,by omega⟩
  have e1:(ps++qs).getD (rs.length+j) 0=qs.getD j 0:=by
   rw [List.getD_eq_getElem?_getD,List.getD_eq_getElem?_getD,List.getElem?_append_right (by omega)]
   congr 2;omega
  have e2:(rs++rs2).getD (rs.length+j) []=rs2.getD j []:=by
   rw [List.getD_eq_getElem?_getD,List.getD_eq_getElem?_getD,List.getElem?_append_right (by omega)]
   congr 2;omega
  rw [e1,e2];obtain ⟨a1,a2,a3⟩:=k3 j (by omega);exact ⟨by rw [b _ a3];exact a1,a2,a3⟩
theorem zf1 {H:Hp} {Q:VK} {p b:Addr} {xs ys:List V} (h:H p=some (.lst xs)) (h':H b=some (.lst ys)) (hz:xs.length+ys.length≤1000000) (q:∀ H2,But p H H2→H2 p=some (.lst (xs++ys))→Q .non H2):rExtend (.ref p) [.ref b] H Q :=
 ⟨p,b,xs,ys,rfl,rfl,h,h',by rw [sizeLine_eq];omega,q _ But.upd zaq⟩
def zem (K:PySem.W.Frag):Sp:=fun vs H Q _=>vs.length=1∧∃ (m:Int),vs=[.int m]∧0≤m∧m≤10∧∀ (p:Addr) (H2:Hp),Told H p (zbL m) H2→Q (.ref p) H2
theorem zgV (T:Txt K mg t):FnOk P w K mg base CX0 3 t.f_2 t.d_2 ["many"] (zem K):=by
 have G_3:=zcP (P:=P) (w:=w) (base:=base) T;refine T.F_2.ok sc_2 (fun _ _ _ _ h=>h.1) fun cdv A outer s H vs Q E hr h=>by
  refine ⟨_,(zac (zaF (i:=1) sc_2.nd rfl (Or.inl rfl) (zaB pa_nil))
   (zac (zaF (i:=2) sc_2.nd rfl (Or.inl rfl) (zaB (zaa (zaB pa_nil) pa_nil)))
   (zac (zge PassesOwn.never (zah (op_gt) (zar (zao (K:=K) rfl) (by rfl) T.z_len (by rfl) (zaa (pv 2) pa_nil)) zad (zat _))
   (zac (zaz (zaT (K:=K) rfl PySem.F.plainAttrs_list PySem.F.slot_list_extend PySem.F.type_list_extend mt_extend (pv 1) (zaa (pv 2) pa_nil)))
   (zae (zaF (i:=2) sc_2.nd rfl (Or.inl rfl) (zan G_3 (hr.mono (by decide)) (by rfl) T.m_3 T.F_3.kp T.b_3 .nil zaI (zaa (pv 2) (zaa (pv 0) pa_nil)))))))
   (zae (zaj (pv 1)))))),?_⟩
  obtain ⟨_,m,rfl,m0,m1,q⟩:=h;obtain ⟨c1,c2,c3,c4⟩:=zjq m0 m1;symm;refine zam (by decide) fun p1 H1 f1 s1 e1=>?_;symm;refine zam (by decide) fun p2 H2 f2 s2 e2=>?_;symm;refine zam (by simp) fun p3 H3 f3 s3 e3=>?_;symm;have f2':H p2=none:=s1.free f2;have f3':H p3=none:=(s1.trans s2).free f3;refine ⟨fun n σ H'=>∃ pc told cur,σ=[some (.int m),some (.ref p1),some (.ref pc)]∧Told H p1 told H'∧Told H pc cur H'∧pc≠p1∧(∃ qs:List Addr,H' pc=some (.lst (qs.map V.ref))∧∀ i,i < cur.length→qs.getD i 0≠p1)∧told++allFrom m n cur=zbL m∧zf0 m n cur=true,⟨11,p3,[],[[]],rfl,?_,?_,?_,?_,rfl,c1⟩,?_⟩
  ·exact ⟨(s1.trans s2).trans s3,f1,[],s3 _ _ (s2 _ _ e1),rfl,fun i hi=>absurd hi (by simp)⟩
  ·refine ⟨(s1.trans s2).trans s3,f3',[p2],e3,rfl,fun i hi=>?_⟩;have hi0:i=0:=by simpa using hi
   subst hi0;exact ⟨s3 _ _ e2,f2',zaf e2 f3⟩
  ·exact (zaf (s2 _ _ e1) f3).symm
  ·refine ⟨[p2],e3,fun i hi=>?_⟩;have hi0:i=0:=by simpa using hi
   subst hi0;exact (zaf e1 f2).symm
  rintro n σ H' ⟨pc,told,cur,rfl,R1,R2,hne,⟨qs',hq',hqn⟩,hall,hlev⟩;obtain ⟨sb,hp,ps,h1,h2,h3⟩:=id R1;obtain ⟨_,hpc,qs,k1,k2,k3⟩:=id R2;have eqs:qs'=qs:=by
   rw [hq'] at k1;have:=HO.lst.inj (Option.some.inj k1);exact map_ref_inj this
  subst eqs;symm;refine zbm (fun h0=>?_) (fun h0=>?_)
  ·cases n with
   | zero =>
     have:cur=[]:=by simpa [zf0] using hlev
     rw [this] at k2;rw [k2] at h0;exact absurd h0 (by simp)
   | succ n =>
     unfold zf0 at hlev;simp only [Bool.and_eq_true,decide_eq_true_eq,List.all_eq_true] at hlev;obtain ⟨⟨g1,g2⟩,g3⟩:=hlev;refine ⟨fun σ H'=>∃ pc told cur,σ=[some (.int m),some (.ref p1),some (.ref pc)]∧Told H p1 told H'∧Told H pc cur H'∧pc≠p1∧(∃ qs:List Addr,H' pc=some (.lst (qs.map V.ref))∧∀ i,i < cur.length→qs.getD i 0≠p1)∧told++allFrom m n cur=zbL m∧zf0 m n cur=true,
      fun σ' H' z=>⟨n,by omega,z⟩,?_⟩
     have htot:told.length+cur.length≤1024:=by
      have e1:=congrArg List.length hall;rw [c2,List.length_append] at e1;unfold allFrom at e1;rw [List.length_append] at e1;have e2:2 ^ m.toNat≤2 ^ 10:=Nat.pow_le_pow_right (by decide) (by omega);omega
     symm;refine zf1 h1 k1 (by rw [List.length_map,List.length_map];omega) fun H4 b4 e4=>?_;have T4:Told H p1 (told++cur) H4:=Told.ext sb hp h1 h2 h3 k2 (fun i hi=>⟨(k3 i hi).1,(k3 i hi).2.1,hqn i hi⟩) b4 e4;have C4:Told H pc cur H4:=by
      refine ⟨T4.same,hpc,qs',by rw [b4 _ hne];exact k1,k2,fun i hi=>?_⟩;obtain ⟨a1,a2,a3⟩:=k3 i hi;exact ⟨by rw [b4 _ (hqn i hi)];exact a1,a2,a3⟩
     symm;refine zc6 C4.ll m0 m1 g1 (fun i hi=>?_) fun p5 H5 R5=>?_
     ·have:=g2 (cur.getD i []) (by rw [List.getD_eq_getElem?_getD,List.getElem?_eq_getElem hi];exact List.getElem_mem hi);exact ⟨this.1.1,this.1.2,this.2⟩
     symm;obtain ⟨s5,n5,qs5,w1,w2,wnd,w3⟩:=R5;obtain ⟨_,_,ps4,v1,_,_⟩:=id T4;refine ⟨p5,told++cur,zaQ m cur,rfl,T4.mono s5,⟨T4.same.trans s5,T4.same.free n5,qs5,w1,w2,fun i hi=>?_⟩,(zaf v1 n5).symm,⟨qs5,w1,fun i hi=>?_⟩,?_,g3⟩
     ·obtain ⟨a1,a2,a3⟩:=w3 i hi;exact ⟨a1,T4.same.free a2,a3⟩
     ·exact (zaf v1 (w3 i hi).2.1).symm
     ·rw [← hall,List.append_assoc];rfl
  ·have hc:cur=[]:=by
    cases cur with
    | nil=>rfl
    | cons x r=>rw [List.length_cons] at k2;exact absurd (show (0:Int) < qs'.length by omega) h0
   rw [hc,zdR,List.append_nil] at hall;rw [hall] at R1;symm;exact q p1 H' R1
theorem zie {H:Hp} {m:Int} {Q:VK} {E:XK} (m0:0≤m) (m1:m≤10) (q:∀ (p:Addr) (H2:Hp),Told H p (zbL m) H2→Q (.ref p) H2):zem K [.int m] H Q E:=⟨rfl,m,rfl,m0,m1,q⟩
def zdS (K:PySem.W.Frag):Sp:=fun vs H Q _=>vs.length=4∧∃ (a b:Addr) (k j:Int) (hs:List Int) (rs:List (List Int)),vs=[.ref a,.ref b,.int k,.int j]∧SqL K H a (hs.map V.int)∧LL K H b rs∧1≤k∧k≤hs.length∧1≤j∧j≤rs.length∧(∀ i,i < rs.length→(rs.getD i []).length=2) ∧
 Q (.bl (!decide ((rs.getD (j-1).toNat []).getD 0 0=hs.getD (k-1).toNat 0))) H
theorem zdT (T:Txt K mg t):FnOk P w K mg base CX0 1 t.f_0 t.d_0 ["papers","readers","paper","reader"] (zdS K):=by
 refine T.F_0.ok sc_0 (fun _ _ _ _ h=>h.1) fun cdv A outer s H vs Q E hr h=>by
  refine ⟨_,(zac (zaF (i:=4) sc_0.nd rfl (Or.inl rfl) (zaD (zag (K:=K) rfl) (zaD (zag (K:=K) rfl) (pv 1) (zav (op_sub) (pv 3) zad) (fun _ _=>rfl)) zad (fun _ _=>rfl)))
   (zae (zaj (zb8 (zff (K:=K) rfl hr.units0) (pv 4) (zaD (zag (K:=K) rfl) (pv 0) (zav (op_sub) (pv 2) zad) (fun _ _=>rfl)) (zat _))))),?_⟩
  obtain ⟨_,a,b,k,j,hs,rs,rfl,ha,⟨ps,hb,hl,hr⟩,k1,k2,j1,j2,h2,q⟩:=h;have hj:(j-1).toNat < rs.length:=by omega
  have hr':=hr _ hj;have h2':=h2 _ hj;symm;exact q
theorem zen {H:Hp} {a b:Addr} {k j:Int} {hs:List Int} {rs:List (List Int)} {Q:VK} {E:XK} (h1:SqL K H a (hs.map V.int)) (h2:LL K H b rs) (k1:1≤k) (k2:k≤hs.length) (j1:1≤j) (j2:j≤rs.length) (h3:∀ i,i < rs.length→(rs.getD i []).length=2)
  (q:Q (.bl (!decide ((rs.getD (j-1).toNat []).getD 0 0=hs.getD (k-1).toNat 0))) H):zdS K [.ref a,.ref b,.int k,.int j] H Q E:=⟨rfl,a,b,k,j,hs,rs,rfl,h1,h2,k1,k2,j1,j2,h3,q⟩
def zeo (K:PySem.W.Frag):Sp:=fun vs H Q _=>vs.length=4∧∃ (a b c:Addr) (j:Int) (hs:List Int) (rs:List (List Int)) (xs:List Int),vs=[.ref a,.ref b,.ref c,.int j]∧SqL K H a (hs.map V.int)∧LL K H b rs∧SqL K H c (xs.map V.int)∧InB hs rs∧SetM hs.length xs∧1≤j∧j≤rs.length∧∀ H',Same H H'→Q (.int (zbj hs (rs.getD (j-1).toNat []) xs)) H'
theorem zgW (T:Txt K mg t):FnOk P w K mg base CX0 2 t.f_6 t.d_6 ["papers","readers","chosen","reader"] (zeo K):=by
 have G_0:=zdT (P:=P) (w:=w) (base:=base) T;refine T.F_6.ok sc_6 (fun _ _ _ _ h=>h.1) fun cdv A outer s H vs Q E hr h=>by
  refine ⟨_,(zac (zaF (i:=4) sc_6.nd rfl (Or.inl rfl) (zaD (zag (K:=K) rfl) (zaD (zag (K:=K) rfl) (pv 1) (zav (op_sub) (pv 3) zad) (fun _ _=>rfl)) zad (fun _ _=>rfl)))
   (zac (zc2 (i:=5) sc_6.nd rfl (Or.inl rfl) (by rfl) (zau (sc:=zab s_6) (XN:=["papers","readers","chosen","reader","limit","may_be_read"]) (N:=["paper","papers","readers","reader"]) (own:=1) (js:=[0,1,3]) rfl rfl (by decide +kernel)) rfl (zaR (K:=K) rfl (pv 2)) (fun _ _ _ _ _=>(zaA (i:=0) (show List.Nodup [(Str.ofString "paper"),(Str.ofString "papers"),(Str.ofString "readers"),(Str.ofString "reader")] by decide +kernel) rfl (Or.inl rfl))) (fun _ _ _ _ _=>(zfL (zaL (K:=K) rfl (zan G_0 (hr.mono (by decide)) (by rfl) T.m_0 T.F_0.kp T.b_0 .nil zaI (zaa (pv 1) (zaa (pv 2) (zaa (pv 0) (zaa (pv 3) pa_nil))))) (fun _=>rfl)))) (fun _ _ _ _ _=>(pv 0)))
   (zae (zaj (zar (zgD rfl) (by rfl) T.z_min (by rfl) (zaa (pv 4) (zaa (zar (zao (K:=K) rfl) (by rfl) T.z_len (by rfl) (zaa (pv 5) pa_nil)) pa_nil))))))),?_⟩
  obtain ⟨_,a,b,c,j,hs,rs,xs,rfl,ha,L,hc,B,X,j1,j2,q⟩:=h;obtain ⟨ps,hb,hl,hr⟩:=id L;have hj:(j-1).toNat < rs.length:=by omega
  have hr':=hr _ hj;have h2':=B.r2 _ hj;have hx:=X.few (by omega);have B1:=B.lp;have hlim:=B.rl _ hj;symm;refine zba hc ?_;generalize er:rs.getD (j-1).toNat []=r at *;refine zhG hc (by rw [List.length_map];omega) (neV hs (r.getD 0 0)) (fun i H' Q' hi s q'=>?_) fun p H2 f s e=>?_
  ·rw [List.length_map] at hi;have ex:(xs.map V.int).getD i .non=.int (xs.getD i 0):=by
    rw [List.getD_eq_getElem?_getD,List.getElem?_map,List.getElem?_eq_getElem hi,List.getD_eq_getElem?_getD,List.getElem?_eq_getElem hi];rfl
   rw [ex] at q' ⊢;have hm:=X.rng (xs.getD i 0) (by rw [List.getD_eq_getElem?_getD,List.getElem?_eq_getElem hi];exact List.getElem_mem hi);symm;refine zen (s.seq ha) (L.same s) (by omega) (by omega) j1 j2 B.r2 ?_;symm;rw [er];have es:neV hs (r.getD 0 0) (V.int (xs.getD i 0)) = !decide (r.getD 0 0=hs.getD (xs.getD i 0-1).toNat 0):=by
    show (!decide _)=(!decide _)
    congr 1
    exact decide_eq_decide.mpr ⟨Eq.symm,Eq.symm⟩
   rw [es] at q';exact q'
  symm;have et:zbj hs r xs=min (r.getD 1 0) (((xs.map V.int).filter (neV hs (r.getD 0 0))).length:Int):=by
   match r,h2' with
   | [h,l],_=>exact zfc hs h l xs hlim.1
  have em:(if (((xs.map V.int).filter (neV hs (r.getD 0 0))).length:Int) < r.getD 1 0 then (((xs.map V.int).filter (neV hs (r.getD 0 0))).length:Int) else r.getD 1 0)=zbj hs r xs:=by
   rw [et];split <;> omega
  have em':(if (((xs.map V.int).filter (neV hs (r.getD 0 0))).length:Int) < r.getD (Int.toNat 1) 0 then (((xs.map V.int).filter (neV hs (r.getD 0 0))).length:Int) else r.getD (Int.toNat 1) 0)=zbj hs r xs:=em;rw [em'];exact q _ s
theorem zif {H:Hp} {a b c:Addr} {j:Int} {hs:List Int} {rs:List (List Int)} {xs:List Int} {Q:VK} {E:XK} (h1:SqL K H a (hs.map V.int)) (h2:LL K H b rs) (h3:SqL K H c (xs.map V.int)) (h4:InB hs rs) (h5:SetM hs.length xs) (j1:1≤j) (j2:j≤rs.length)
  (q:∀ H',Same H H'→Q (.int (zbj hs (rs.getD (j-1).toNat []) xs)) H'):zeo K [.ref a,.ref b,.ref c,.int j] H Q E:=⟨rfl,a,b,c,j,hs,rs,xs,rfl,h1,h2,h3,h4,h5,j1,j2,q⟩
theorem zfu (hs:List Int) (rs:List (List Int)) (xs:List Int):((List.range rs.length).map fun i=>zbj hs (rs.getD i []) xs).sum=zbT hs rs xs:=by
 have key:∀ n,n≤rs.length→((List.range n).map fun i=>zbj hs (rs.getD i []) xs).sum=zbT hs (rs.take n) xs:=by
  intro n
  induction n with
  | zero=>intro _;rfl
  | succ n ih =>
    intro hn;rw [List.range_succ,List.map_append,List.sum_append,ih (by omega),zfO _ _ _ _ (by omega)];simp
 rw [key _ (Nat.le_refl _),List.take_length]
theorem zgX {hs r xs:List Int} (h2:r.length=2) (h0:0≤r.getD 1 0):0≤zbj hs r xs∧zbj hs r xs≤r.getD 1 0:=by
 match r,h2 with
 | [h,l],_ =>
   rw [zfc hs h l xs h0];have h0':0≤l:=h0;show _∧_≤l;omega
def zig (K:PySem.W.Frag):Sp:=fun vs H Q _=>vs.length=3∧∃ (a b c:Addr) (hs:List Int) (rs:List (List Int)) (xs:List Int),vs=[.ref a,.ref b,.ref c]∧SqL K H a (hs.map V.int)∧LL K H b rs∧SqL K H c (xs.map V.int)∧InB hs rs∧SetM hs.length xs∧∀ H',Same H H'→Q (.int (zbT hs rs xs)) H'
theorem zkg (T:Txt K mg t):FnOk P w K mg base CX0 3 t.f_5 t.d_5 ["papers","readers","chosen"] (zig K):=by
 have G_6:=zgW (P:=P) (w:=w) (base:=base) T;refine T.F_5.ok sc_5 (fun _ _ _ _ h=>h.1) fun cdv A outer s H vs Q E hr h=>by
  refine ⟨_,(zae (zaj (zar (zhI (K:=K) rfl rfl) (by rfl) T.z_sum (by rfl) (zaa (za6 (zau (sc:=zab s_5) (XN:=["papers","readers","chosen"]) (N:=["reader","papers","readers","chosen"]) (own:=1) (js:=[0,1,2]) rfl rfl (by decide +kernel)) rfl (zb6 (by rfl) T.z_range (zaa zad (zaa (zav (op_addG) (zar (zao (K:=K) rfl) (by rfl) T.z_len (by rfl) (zaa (pv 1) pa_nil)) zad) pa_nil))) (fun _ _ _ _ _=>(zaA (i:=0) (show List.Nodup [(Str.ofString "reader"),(Str.ofString "papers"),(Str.ofString "readers"),(Str.ofString "chosen")] by decide +kernel) rfl (Or.inl rfl))) (fun _ _ _ _ _=>za5) (fun _ _ _ _ _=>(zan G_6 (hr.mono (by decide)) (by rfl) T.m_6 T.F_6.kp T.b_6 .nil zaI (zaa (pv 1) (zaa (pv 2) (zaa (pv 3) (zaa (pv 0) pa_nil))))))) pa_nil)))),?_⟩;obtain ⟨_,a,b,c,hs,rs,xs,rfl,ha,L,hc,B,X,q⟩:=h;obtain ⟨ps,hb,hl,hr⟩:=id L;have B2:=B.lr;symm;refine ze7 ⟨by omega,by omega,by omega,by omega⟩ ?_;have en:((ps.length:Int)+1-1).toNat=rs.length:=by omega
  rw [en];refine zds (zcI (zcl.one (zch _ _ _)) (by omega) (fun _=>true) (fun i=>.int (zbj hs (rs.getD i []) xs)) (fun i H' Q' _ _ q'=>q' _ (Same.refl _)) (fun i H' Q' hi s _ q'=>?_) fun p H2 f s e=>?_)
  ·show (_:TE) (some (.int (1+(i:Int)))::_) _ _;symm;refine zif (s.seq ha) (L.same s) (s.seq hc) B X (by omega) (by omega) fun H3 s3=>?_;have e:(1+(i:Int)-1).toNat=i:=by omega
   rw [e];exact q' _ s3
  have ef:((List.range rs.length).filter fun _=>true).map (fun i=>V.int (zbj hs (rs.getD i []) xs))=((List.range rs.length).map fun i=>zbj hs (rs.getD i []) xs).map V.int:=by
   rw [List.filter_eq_self.mpr (fun _ _=>rfl),List.map_map];rfl
  rw [ef] at e;refine ziH (SqL.of e) (fun x hx=>?_) (by rw [List.length_map,List.length_range];omega) ?_
  ·obtain ⟨i,hi,rfl⟩:=List.mem_map.mp hx;have hi':=List.mem_range.mp hi;have:=zgX (hs:=hs) (xs:=xs) (B.r2 i hi') (B.rl i hi').1;have:=B.rl i hi';omega
  rw [zfu];exact q _ s
theorem zls {H:Hp} {a b c:Addr} {hs:List Int} {rs:List (List Int)} {xs:List Int} {Q:VK} {E:XK} (h1:SqL K H a (hs.map V.int)) (h2:LL K H b rs) (h3:SqL K H c (xs.map V.int)) (h4:InB hs rs) (h5:SetM hs.length xs)
  (q:∀ H',Same H H'→Q (.int (zbT hs rs xs)) H'):zig K [.ref a,.ref b,.ref c] H Q E:=⟨rfl,a,b,c,hs,rs,xs,rfl,h1,h2,h3,h4,h5,q⟩
def zcQ (K:PySem.W.Frag):Sp:=fun vs H Q _=>vs.length=3∧∃ (a b c:Addr) (hs:List Int) (rs:List (List Int)) (xs:List Int),vs=[.ref a,.ref b,.ref c]∧SqL K H a (hs.map V.int)∧LL K H b rs∧SqL K H c (xs.map V.int)∧InB hs rs∧SetM hs.length xs∧∀ H',Same H H'→Q (.bl (agB hs rs xs)) H'
theorem zeO (T:Txt K mg t):FnOk P w K mg base CX0 4 t.f_7 t.d_7 ["papers","readers","chosen"] (zcQ K):=by
 have G_5:=zkg (P:=P) (w:=w) (base:=base) T;refine T.F_7.ok sc_7 (fun _ _ _ _ h=>h.1) fun cdv A outer s H vs Q E hr h=>by
  refine ⟨_,(zae (zaj (zb8 (op_lt) (zan G_5 (hr.mono (by decide)) (by rfl) T.m_5 T.F_5.kp T.b_5 .nil zaI (zaa (pv 0) (zaa (pv 1) (zaa (pv 2) pa_nil)))) (zav (op_mulB) zad (zar (zao (K:=K) rfl) (by rfl) T.z_len (by rfl) (zaa (pv 2) pa_nil))) (zat _)))),?_⟩;obtain ⟨_,a,b,c,hs,rs,xs,rfl,ha,L,hc,B,X,q⟩:=h;have B1:=B.lp;have hx:=X.few (by omega);symm;refine zls ha L hc B X fun H1 s1=>?_;have hc1:=s1.seq hc;symm;exact q _ s1
theorem zfv {H:Hp} {a b c:Addr} {hs:List Int} {rs:List (List Int)} {xs:List Int} {Q:VK} {E:XK} (h1:SqL K H a (hs.map V.int)) (h2:LL K H b rs) (h3:SqL K H c (xs.map V.int)) (h4:InB hs rs) (h5:SetM hs.length xs)
  (q:∀ H',Same H H'→Q (.bl (agB hs rs xs)) H'):zcQ K [.ref a,.ref b,.ref c] H Q E:=⟨rfl,a,b,c,hs,rs,xs,rfl,h1,h2,h3,h4,h5,q⟩
theorem zlt {x:Int}:∀ (ns:List Int) (o:Option Int),(∀ y∈ns,y < x)→(∀ y,o=some y→y < x)→∀ y,mxOf o ns=some y→y < x
 | [],o,_,ho,y,h=>ho y h
 | n::ns,o,hn,ho,y,h=>by
   have h':mxOf (zda o n) ns=some y:=h;refine zlt ns (zda o n) (fun z hz=>hn z (List.mem_cons_of_mem _ hz)) (fun z hz=>?_) y h';have h0:=hn n List.mem_cons_self
   cases o with
   | none=>unfold zda at hz;simp at hz;omega
   | some w =>
     have:=ho w rfl;unfold zda at hz;simp only at hz;split at hz <;> · have:=Option.some.inj hz;omega
theorem zi5 {x:Int} {ns:List Int} (h:∀ y∈ns,y < x) (h0:0 < x):zbq ns < x:=by
 unfold zbq
 cases e:mxOf none ns with
 | none=>exact h0
 | some y=>exact zlt ns none h (fun y z=>by cases z) y e
def levB (m:Int):Nat→List (List Int)
 | 0=>[[]]
 | k+1=>zaQ m (levB m k)
theorem zih {m:Int}:∀ (k:Nat) {xs:List Int},xs.length=k→xs.Pairwise (· < ·)→(∀ x∈xs,1≤x∧x≤m)→xs∈levB m k
 | 0,xs,h,_,_=>by
   have:xs=[]:=List.eq_nil_of_length_eq_zero h;subst this;exact List.mem_singleton.mpr rfl
 | k+1,xs,h,hp,hb=>by
   have hne:xs≠[]:=by rintro rfl;simp at h
   have ex:=(List.dropLast_concat_getLast hne).symm;generalize xs.dropLast=ys at ex;generalize xs.getLast hne=x at ex;subst ex;obtain ⟨p1,_,p3⟩:=List.pairwise_append.mp hp;have hx:=hb x (by simp);have hy:ys∈levB m k:=zih k (by simpa using h) p1 fun y hy=>hb y (List.mem_append_left _ hy);show ys++[x]∈zaQ m (levB m k);unfold zaQ;refine List.mem_flatMap.mpr ⟨ys,hy,?_⟩;unfold extB;have hg:=zi5 (ns:=ys) (x:=x) (fun y hy=>p3 y hy x (by simp)) (by omega);refine List.mem_map.mpr ⟨(x-(zbq ys+1)).toNat,List.mem_range.mpr (by omega),?_⟩;have:zbq ys+1+((x-(zbq ys+1)).toNat:Int)=x:=by omega
   rw [this]
theorem zdU {m:Int}:∀ (n k j:Nat) {xs:List Int},xs∈levB m (j+k)→k < n→xs∈allFrom m n (levB m j)
 | 0,k,j,xs,_,hk=>by omega
 | n+1,0,j,xs,h,_=>List.mem_append_left _ h
 | n+1,k+1,j,xs,h,hk=>by
   refine List.mem_append_right _ ?_;have:zaQ m (levB m j)=levB m (j+1):=rfl;rw [this];refine zdU n k (j+1) ?_ (by omega);have e:j+1+k=j+(k+1):=by omega
   rw [e];exact h
theorem zfw {m:Int} {xs:List Int} (m0:0≤m) (m1:m≤10) (h:SetM m xs):xs∈zbL m:=by
 have hl:=h.few m0;have:=zih (m:=m) xs.length rfl h.up h.rng;refine zdU (m:=m) 11 xs.length 0 ?_ (by omega);rw [Nat.zero_add];exact this
theorem ahead_pw:∀ {L:List (List Int)},aheadAll L=true→L.Pairwise fun a b=>zcb a b=true
 | [],_=>List.Pairwise.nil
 | [a],_=>by simp
 | a::b::r,h=>by
   unfold aheadAll at h;simp only [Bool.and_eq_true] at h;have ih:=ahead_pw h.2;refine List.pairwise_cons.mpr ⟨fun c hc=>?_,ih⟩;rcases List.mem_cons.mp hc with rfl | hc
   ·exact h.1
   ·exact zdb h.1 ((List.pairwise_cons.mp ih).1 c hc)
theorem zi6 {hs:List Int} {rs:List (List Int)} {i:Nat} (hl:hs.length≤10) (hM:∀ xs∈zbL hs.length,SetM hs.length xs) (hA:aheadAll (zbL hs.length)=true) (hi:i < (zbL hs.length).length)
  (h1:agB hs rs ((zbL hs.length).getD i [])=true) (h0:∀ j,j < i→agB hs rs ((zbL hs.length).getD j [])=false):zbh hs rs (some ((zbL hs.length).getD i [])):=by
 refine ⟨hM _ (getD_mem hi),h1,fun ys hy hag=>?_⟩;obtain ⟨j,hj,rfl⟩:=mem_getD (d:=[]) (zfw (by omega) (by omega) hy)
 by_cases hlt:j < i
 ·rw [h0 j hlt] at hag;cases hag
 ·by_cases e:j=i
  ·subst e;exact zdD _
  ·have hp:=ahead_pw hA;rw [Bool.eq_false_iff];intro z;have h2:zcb ((zbL hs.length).getD i []) ((zbL hs.length).getD j [])=true:=by
    rw [List.getD_eq_getElem?_getD,List.getElem?_eq_getElem hi,List.getD_eq_getElem?_getD,List.getElem?_eq_getElem hj];exact List.pairwise_iff_getElem.mp hp i j hi hj (by omega)
   have:=zdb h2 z;rw [zdD] at this
   cases this
theorem none_of {hs:List Int} {rs:List (List Int)} (hl:hs.length≤10) (h0:∀ j,j < (zbL hs.length).length→agB hs rs ((zbL hs.length).getD j [])=false):zbh hs rs none:=by
 intro ys hy;obtain ⟨j,hj,rfl⟩:=mem_getD (d:=[]) (zfw (by omega) (by omega) hy);exact h0 j hj
def zbX (K:PySem.W.Frag):Sp:=fun vs H Q _=>vs.length=2∧∃ (a b:Addr) (hs:List Int) (rs:List (List Int)),vs=[.ref a,.ref b]∧SqL K H a (hs.map V.int)∧LL K H b rs∧InB hs rs∧(zbh hs rs none→∀ H',Same H H'→Q .non H')∧∀ xs,zbh hs rs (some xs)→∀ p H',H p=none→Same H H'→H' p=some (.lst (xs.map V.int))→Q (.ref p) H'
theorem zdl (T:Txt K mg t):FnOk P w K mg base CX0 5 t.f_8 t.d_8 ["papers","readers"] (zbX K):=by
 have G_2:=zgV (P:=P) (w:=w) (base:=base) T;have G_7:=zeO (P:=P) (w:=w) (base:=base) T;refine T.F_8.ok sc_8 (fun _ _ _ _ h=>h.1) fun cdv A outer s H vs Q E hr h=>by
  refine ⟨_,(zac (zb7 PassesOwn.never rfl (zaR (K:=K) rfl (zan G_2 (hr.mono (by decide)) (by rfl) T.m_2 T.F_2.kp T.b_2 .nil zaI (zaa (zar (zao (K:=K) rfl) (by rfl) T.z_len (by rfl) (zaa (pv 0) pa_nil)) pa_nil))) (zaA (i:=2) sc_8.nd rfl (Or.inl rfl))
   (zae (zaK (zaL (K:=K) rfl (zan G_7 (hr.mono (by decide)) (by rfl) T.m_7 T.F_7.kp T.b_7 .nil zaI (zaa (pv 0) (zaa (pv 1) (zaa (pv 2) pa_nil)))) (fun _=>rfl))
   (zae (zaj (pv 2))) pss_nil)))
   (zae (zaj zb2))),?_⟩
  obtain ⟨_,a,b,hs,rs,rfl,ha,L,B,q0,q1⟩:=h;have B1:=B.lp;symm;refine zie (by omega) (by omega) fun p H1 T1=>?_;obtain ⟨_,_,c3,hA⟩:=zjq (m:=(hs.length:Int)) (by omega) (by omega);have hM:∀ xs∈zbL hs.length,SetM hs.length xs:=fun xs hx=>⟨(zc3 (c3 xs hx)).1,fun x h=>by have:=(zc3 (c3 xs hx)).2 x h;omega⟩
  obtain ⟨s1,f1,ps,e1,hl1,hr1⟩:=id T1;generalize eS:zbL (hs.length:Int)=S at *;symm;refine zba (SqL.of e1) ?_;refine zeB (xs:=ps.map V.ref) (fun i σ H'=>Same H1 H'∧(∃ v,σ=[some (.ref a),some (.ref b),v])∧∀ j,j < i→agB hs rs (S.getD j [])=false) ⟨Same.refl _,⟨none,rfl⟩,fun j hj=>absurd hj (by omega)⟩ ?_ ?_ ?_
  ·rintro i σ H' _ ⟨s,_,_⟩;exact SqL.of (s _ _ e1)
  ·rintro i x σ H' hx ⟨s,⟨v,rfl⟩,h0⟩;obtain ⟨hi,rfl⟩:=zjX hx;obtain ⟨g1,g2,g3⟩:=hr1 i (by omega);have sH:=s1.trans s;have hm:SetM hs.length (S.getD i []):=hM _ (getD_mem (by omega));symm;refine zfv (sH.seq ha) (L.same sH) (SqL.of (s _ _ g1)) B hm fun H3 s3=>?_;symm
   cases eg:agB hs rs (S.getD i []) with
   | true =>
     refine iteT ?_;symm;refine q1 (S.getD i []) ?_ _ _ g2 (sH.trans s3) (s3 _ _ (s _ _ g1));subst eS;exact zi6 B1 hM hA (by omega) eg h0
   | false =>
     refine iteF ?_;symm;refine ⟨s.trans s3,⟨_,rfl⟩,fun j hj=>?_⟩
     by_cases e:j=i
     ·subst e;exact eg
     ·exact h0 j (by omega)
  ·rintro σ H' ⟨s,⟨v,rfl⟩,h0⟩;symm;refine q0 ?_ _ (s1.trans s);subst eS;exact none_of B1 fun j hj=>h0 j (by rw [List.length_map];omega)
theorem zdV {H:Hp} {a b:Addr} {hs:List Int} {rs:List (List Int)} {Q:VK} {E:XK} (h1:SqL K H a (hs.map V.int)) (h2:LL K H b rs) (h4:InB hs rs) (q0:zbh hs rs none→∀ H',Same H H'→Q .non H') (q1:∀ xs,zbh hs rs (some xs)→∀ p H',H p=none→Same H H'→H' p=some (.lst (xs.map V.int))→Q (.ref p) H'):zbX K [.ref a,.ref b] H Q E:=⟨rfl,a,b,hs,rs,rfl,h1,h2,h4,q0,q1⟩
def zbD (K:PySem.W.Frag) (C:Addr):Sp:=fun vs H Q _=>vs.length=1∧∃ (x:Addr) (F:Addr→Prop) (st:ExS),vs=[.ref x]∧ExAt C H x F st∧InB st.hs st.rs∧((st.dl≠none∨zbh st.hs st.rs none→∀ H',Same H H'→Q .non H')∧∀ xs,st.dl=none→zbh st.hs st.rs (some xs)→∀ p H',H p=none→Same H H'→H' p=some (.lst (xs.map V.int))→Q (.ref p) H')
theorem zdW (T:Txt K mg t):FnOk P w K mg base CX0 6 t.f_41 t.d_41 ["self"] (zbD K t.C_Exam):=by
 have G_8:=zdl (P:=P) (w:=w) (base:=base) T;refine T.F_41.ok sc_41 (fun _ _ _ _ h=>h.1) fun cdv A outer s H vs Q E hr h=>by
  refine ⟨_,(zac (zaK (zaL (K:=K) rfl (zaN (K:=K) rfl (pv 0)) (fun _=>rfl))
   (zae (zaj zb2)) pss_nil)
   (zae (zaj (zan G_8 (hr.mono (by decide)) (by rfl) T.m_8 T.F_8.kp T.b_8 .nil zaI (zaa (zaN (K:=K) rfl (pv 0)) (zaa (zaN (K:=K) rfl (pv 0)) pa_nil)))))),?_⟩
  obtain ⟨_,x,F,st,rfl,E0,BB,q⟩:=h;have B1:=BB.lp;have B2:=BB.lr;walk_at "hd";obtain ⟨q0,q1⟩:=q;have L:LL K H e.b st.rs:=⟨e.ps,SqL.of hhb,I.lp,I.rp⟩
  symm
  cases hdl:st.dl with
  | some d =>
    refine iteT ?_;symm;exact q0 (.inl (by rw [hdl];simp)) H (Same.refl H)
  | none =>
    refine iteF ?_;rw [hdl] at hob;have fA:=@exFs_a (.ref e.a) (.ref e.b) (.int st.step) (.bl (none:Option (List (List Int)×List (List Int))).isSome) (.ref e.c) (.ref e.d);have fB:=@exFs_b (.ref e.a) (.ref e.b) (.int st.step) (.bl (none:Option (List (List Int)×List (List Int))).isSome) (.ref e.c) (.ref e.d);symm;refine zdV (SqL.of hha) L BB (fun F H8 s8=>?_) (fun xs F pf H8 ff s8 ef=>?_)
    ·exact q0 (.inr F) H8 s8
    ·exact q1 xs hdl F pf H8 ff s8 ef
theorem zeb {K:PySem.W.Frag} {C x:Addr} {H:Hp} {F:Addr→Prop} {st:ExS} {Q:VK} {E:XK} (h:ExAt C H x F st) (B:InB st.hs st.rs) (q:((st.dl≠none∨zbh st.hs st.rs none→∀ H',Same H H'→Q .non H')∧∀ xs,st.dl=none→zbh st.hs st.rs (some xs)→∀ p H',H p=none→Same H H'→H' p=some (.lst (xs.map V.int))→Q (.ref p) H')):zbD K C [.ref x] H Q E:=⟨rfl,x,F,st,rfl,h,B,q⟩
theorem zec {K:PySem.W.Frag} {C x:Addr} {H:Hp} {F:Addr→Prop} {st:ExS} {Q:VK} {E:XK} {σ:L2.St} (h:ExAt C H x F st) (B:InB st.hs st.rs) (q:((st.dl≠none∨zbh st.hs st.rs none→∀ H',Same H H'→Q .non H')∧∀ xs,st.dl=none→zbh st.hs st.rs (some xs)→∀ p H',H p=none→Same H H'→H' p=some (.lst (xs.map V.int))→Q (.ref p) H')):zbw C "against" (zbD K C) E tNil σ (.ref x) H Q:=by
 obtain ⟨dx,fs,e,l⟩:=h.ob;exact za2 e (l _ (by decide +kernel)) (ze5 (zeb h B q))
def zcA (K:PySem.W.Frag) (C:Addr):Sp:=fun vs H Q _=>vs.length=2∧False
theorem zcB (T:Txt K mg t):FnOk P w K mg base CX0 1 t.f_48 t.d_48 ["self","paper"] (zcA K t.C_Exam):=by
 exact T.F_48.ok sc_48 (fun _ _ _ _ h=>h.1) fun _ _ _ _ _ _ _ _ _ h=>h.2.elim
def zdX (K:PySem.W.Frag) (C:Addr):Sp:=fun vs H Q _=>vs.length=1∧∃ (x:Addr) (F:Addr→Prop) (st:ExS),vs=[.ref x]∧ExAt C H x F st∧D31 st∧(∀ p H',H p=none→Same H H'→H' p=some (.lst [])→Q (.ref p) H')
theorem zf2 (T:Txt K mg t):FnOk P w K mg base CX0 2 t.f_42 t.d_42 ["self"] (zdX K t.C_Exam):=by
 have G_48:=zcB (P:=P) (w:=w) (base:=base) T;refine T.F_42.ok sc_42 (fun _ _ _ _ h=>h.1) fun cdv A outer s H vs Q E hr h=>by
  refine ⟨_,(zac (zaF (i:=1) sc_42.nd rfl (Or.inl rfl) (zaB pa_nil))
   (zac (zb7 PassesOwn.never rfl (zb6 (by rfl) T.z_range (zaa zad (zaa (zav (op_addG) (zar (zao (K:=K) rfl) (by rfl) T.z_len (by rfl) (zaa (zaN (K:=K) rfl (pv 0)) pa_nil)) zad) pa_nil))) (zaA (i:=2) sc_42.nd rfl (Or.inr rfl))
   (zae (zaz (zaT (K:=K) rfl PySem.F.plainAttrs_list PySem.F.slot_list_extend PySem.F.type_list_extend mt_extend (pv 1) (zaa (za6 (zau (sc:=zab s_42) (XN:=["self","rows","paper"]) (N:=["reader","paper"]) (own:=1) (js:=[2]) rfl rfl (by decide +kernel)) rfl (zaR (K:=K) rfl (zb9 (pv 0) T.cl_Exam T.me_48 G_48 (hr.mono (by decide)) T.b_48 .nil zaI (zaa (pv 2) pa_nil))) (fun _ _ _ _ _=>(zaA (i:=0) (show List.Nodup [(Str.ofString "reader"),(Str.ofString "paper")] by decide +kernel) rfl (Or.inl rfl))) (fun _ _ _ _ _=>za5) (fun _ _ _ _ _=>(zaB (zaa (pv 1) (zaa (pv 0) pa_nil))))) pa_nil)))))
   (zae (zaj (pv 1))))),?_⟩
  obtain ⟨_,x,F,st,rfl,E0,DD,q⟩:=h;have hnm:=DD.nm;walk_at "hd";have lq:=I.lq;rw [hnm] at lq;have lq:e.qs=[]:=List.length_eq_zero_iff.mp lq;rw [lq] at hhc;symm;refine zam (by decide) fun p1 H1 f1 s1 e1=>?_;have hob1:=s1 _ _ hob;have hhc1:=s1 _ _ hhc;symm;refine ze7 ⟨by decide,by decide,by decide,by decide⟩ ?_;refine zej (fun i σ H'=>σ=[some (.ref e.x),some (.ref p1),none]∧H1=H') ⟨rfl,rfl⟩ (fun i σ H' hi _=>absurd hi (by simp)) ?_;rintro σ H' ⟨rfl,rfl⟩;symm;exact q p1 H1 f1 s1 e1
theorem zgY {K:PySem.W.Frag} {C x:Addr} {H:Hp} {F:Addr→Prop} {st:ExS} {Q:VK} {E:XK} {σ:L2.St} (h:ExAt C H x F st) (D:D31 st) (q:(∀ p H',H p=none→Same H H'→H' p=some (.lst [])→Q (.ref p) H')):zbw C "due" (zdX K C) E tNil σ (.ref x) H Q:=by
 obtain ⟨dx,fs,e,l⟩:=h.ob;exact za2 e (l _ (by decide +kernel)) (ze5 ⟨rfl,x,F,st,rfl,h,D,q⟩)
def zf3 (K:PySem.W.Frag):Sp:=fun vs H Q _=>vs.length=2∧False
theorem zf4 (T:Txt K mg t):FnOk P w K mg base CX0 1 t.f_62 t.d_62 ["paper","reader"] (zf3 K):=by
 exact T.F_62.ok sc_62 (fun _ _ _ _ h=>h.1) fun _ _ _ _ _ _ _ _ _ h=>h.2.elim
def zdm (K:PySem.W.Frag) (C:Addr):Sp:=fun vs H Q _=>vs.length=2∧False
theorem zdn (T:Txt K mg t):FnOk P w K mg base CX0 1 t.f_50 t.d_50 ["self","paper"] (zdm K t.C_Exam):=by
 exact T.F_50.ok sc_50 (fun _ _ _ _ h=>h.1) fun _ _ _ _ _ _ _ _ _ h=>h.2.elim
def zcR (K:PySem.W.Frag) (C:Addr):Sp:=fun vs H Q _=>vs.length=1∧∃ (x:Addr) (F:Addr→Prop) (st:ExS),vs=[.ref x]∧ExAt C H x F st∧D31 st∧(∀ p H',H p=none→Same H H'→H' p=some (.lst ((List.range st.hs.length).map fun _=>V.non))→Q (.ref p) H')
theorem zeP (T:Txt K mg t):FnOk P w K mg base CX0 2 t.f_43 t.d_43 ["self"] (zcR K t.C_Exam):=by
 have G_50:=zdn (P:=P) (w:=w) (base:=base) T;refine T.F_43.ok sc_43 (fun _ _ _ _ h=>h.1) fun cdv A outer s H vs Q E hr h=>by
  refine ⟨_,(zac (zaK (zeW (zaL (K:=K) rfl (zaN (K:=K) rfl (pv 0)) (fun _=>rfl)))
   (zae (zaj (za6 (zau (sc:=zab s_43) (XN:=["self"]) (N:=["house"]) (own:=1) (js:=[]) rfl rfl (by decide +kernel)) rfl (zaR (K:=K) rfl (zaN (K:=K) rfl (pv 0))) (fun _ _ _ _ _=>(zaA (i:=0) (show List.Nodup [(Str.ofString "house")] by decide +kernel) rfl (Or.inl rfl))) (fun _ _ _ _ _=>za5) (fun _ _ _ _ _=>zb2)))) pss_nil)
   (zae (zaj (za6 (zau (sc:=zab s_43) (XN:=["self"]) (N:=["paper","self"]) (own:=1) (js:=[0]) rfl rfl (by decide +kernel)) rfl (zb6 (by rfl) T.z_range (zaa zad (zaa (zav (op_addG) (zar (zao (K:=K) rfl) (by rfl) T.z_len (by rfl) (zaa (zaN (K:=K) rfl (pv 0)) pa_nil)) zad) pa_nil))) (fun _ _ _ _ _=>(zaA (i:=0) (show List.Nodup [(Str.ofString "paper"),(Str.ofString "self")] by decide +kernel) rfl (Or.inl rfl))) (fun _ _ _ _ _=>za5) (fun _ _ _ _ _=>(zb9 (pv 1) T.cl_Exam T.me_50 G_50 (hr.mono (by decide)) T.b_50 .nil zaI (zaa (pv 0) pa_nil))))))),?_⟩
  obtain ⟨_,x,F,st,rfl,E0,DD,q⟩:=h;have BB:=DD.inb;have hdd:=DD.dl;have B1:=BB.lp;have B2:=BB.lr;walk_at "hd";symm;rcases hdd with hdl | ⟨hdl,hh⟩
  ·rw [hdl];refine iteT ?_;rw [hdl] at hob;have fA:=@exFs_a (.ref e.a) (.ref e.b) (.int st.step) (.bl (none:Option (List (List Int)×List (List Int))).isSome) (.ref e.c) (.ref e.d);symm;refine zba (SqL.of hha) ?_;refine za0 (zaZ (SqL.of hha)) (zaH (by rw [List.length_map];omega)) (fun _=>true) (fun _=>.non) (fun i H' Q' hi s q'=>q') (fun i H' Q' hi s _ q'=>q') fun p hp=>?_;rw [List.filter_eq_self.mpr (fun _ _=>rfl),List.length_map];exact q p _ hp (zaC hp) zaq
  ·rw [hdl];refine iteF ?_;rw [hdl] at hob;rw [hh] at hha;have fA:=@exFs_a (.ref e.a) (.ref e.b) (.int st.step) (.bl (some (([]:List (List Int)),([]:List (List Int)))).isSome) (.ref e.c) (.ref e.d);symm;refine ze7 ⟨by decide,by decide,by decide,by decide⟩ ?_;refine za0 (zch 1 0 H) (zaH (by decide)) (fun _=>true) (fun _=>.non) (fun i H' Q' hi s q'=>q') (fun i H' Q' hi s _ q'=>absurd hi (by simp)) fun p hp=>?_;refine q p _ hp (zaC hp) ?_;rw [hh];exact zaq
theorem zfx {K:PySem.W.Frag} {C x:Addr} {H:Hp} {F:Addr→Prop} {st:ExS} {Q:VK} {E:XK} {σ:L2.St} (h:ExAt C H x F st) (D:D31 st) (q:(∀ p H',H p=none→Same H H'→H' p=some (.lst ((List.range st.hs.length).map fun _=>V.non))→Q (.ref p) H')):zbw C "marks" (zcR K C) E tNil σ (.ref x) H Q:=by
 obtain ⟨dx,fs,e,l⟩:=h.ob;exact za2 e (l _ (by decide +kernel)) (ze5 ⟨rfl,x,F,st,rfl,h,D,q⟩)
def zdY (K:PySem.W.Frag):Sp:=fun vs H Q _=>vs.length=2∧False
theorem zdZ (T:Txt K mg t):FnOk P w K mg base CX0 1 t.f_64 t.d_64 ["reader","points"] (zdY K):=by
 exact T.F_64.ok sc_64 (fun _ _ _ _ h=>h.1) fun _ _ _ _ _ _ _ _ _ h=>h.2.elim
def zdf (K:PySem.W.Frag):Sp:=fun vs H Q _=>vs.length=2∧∃ n:Int,vs=[.int n,.non]∧n.natAbs < 10 ^ 40∧Q (.str (opnT n)) H
theorem zfy (T:Txt K mg t):FnOk P w K mg base CX0 2 t.f_63 t.d_63 ["paper","mark"] (zdf K):=by
 have G_64:=zdZ (P:=P) (w:=w) (base:=base) T;refine T.F_63.ok sc_63 (fun _ _ _ _ h=>h.1) fun cdv A outer s H vs Q E hr h=>by
  refine ⟨_,(zac (zaK (zah (op_isNN) (pv 1) zb2 (zat _))
   (zae (zaj (zc4 (zbV (pv 0) (zbU pj_nil))))) pss_nil)
   (zac (zaF (i:=2) sc_63.nd rfl (Or.inl rfl) (zaD (zag (K:=K) rfl) (pv 1) zad (fun _ _=>rfl)))
   (zac (zaF (i:=3) sc_63.nd rfl (Or.inl rfl) (zaD (zag (K:=K) rfl) (pv 1) zad (fun _ _=>rfl)))
   (zac (zaF (i:=4) sc_63.nd rfl (Or.inl rfl) (zaT (K:=K) rfl PySem.F.plainAttrs_str PySem.F.slot_str_join PySem.F.type_str_join (zeJ (K:=K) rfl) zax (zaa (za6 (zau (sc:=zab s_63) (XN:=["paper","mark","top","bottom","readings"]) (N:=["row"]) (own:=1) (js:=[]) rfl rfl (by decide +kernel)) rfl (zaR (K:=K) rfl (zaD (zag (K:=K) rfl) (pv 1) zad (fun _ _=>rfl))) (fun _ _ _ _ _=>(zaA (i:=0) (show List.Nodup [(Str.ofString "row")] by decide +kernel) rfl (Or.inl rfl))) (fun _ _ _ _ _=>za5) (fun _ _ _ _ _=>(zan G_64 (hr.mono (by decide)) (by rfl) T.m_64 T.F_64.kp T.b_64 .nil zaI (zaa (zaD (zag (K:=K) rfl) (pv 0) zad (fun _ _=>rfl)) (zaa (zaD (zag (K:=K) rfl) (pv 0) zad (fun _ _=>rfl)) pa_nil))))) pa_nil)))
   (zae (zaj (zc4 (zbV (pv 0) (zbU (zbV (pv 2) (zbU (zbV (pv 3) (zbU (zbV (pv 4) (zbU pj_nil))))))))))))))),?_⟩
  obtain ⟨_,n,rfl,hn,q⟩:=h;have htl:(Str.ofString (toString n)).length≤41:=za8 hn;symm;rw [decide_eq_true (rfl:V.non=V.non)];refine iteT ?_;symm;exact q
theorem zf5 {H:Hp} {n:Int} {Q:VK} {E:XK} (hn:n.natAbs < 10 ^ 40) (q:Q (.str (opnT n)) H):zdf K [.int n,.non] H Q E:=⟨rfl,n,rfl,hn,q⟩
def zd0 (K:PySem.W.Frag):Sp:=fun vs H Q _=>vs.length=2∧∃ (b:Addr) (rows:List (List Int)) (x:Int),vs=[.ref b,.int x]∧LL K H b rows∧rows.length≤20∧∀ H',Same H H'→Q (.int (cntB rows x:Int)) H'
theorem zf6 (T:Txt K mg t):FnOk P w K mg base CX0 1 t.f_15 t.d_15 ["rows","reader"] (zd0 K):=by
 refine T.F_15.ok sc_15 (fun _ _ _ _ h=>h.1) fun cdv A outer s H vs Q E hr h=>by
  refine ⟨_,(zae (zaj (zar (zao (K:=K) rfl) (by rfl) T.z_len (by rfl) (zaa (za6 (zau (sc:=zab s_15) (XN:=["rows","reader"]) (N:=["row","reader"]) (own:=1) (js:=[1]) rfl rfl (by decide +kernel)) rfl (zaR (K:=K) rfl (pv 0)) (fun _ _ _ _ _=>(zaA (i:=0) (show List.Nodup [(Str.ofString "row"),(Str.ofString "reader")] by decide +kernel) rfl (Or.inl rfl))) (fun _ _ _ _ _=>(zfL (zah (zhT (K:=K) rfl (zhs hr)) (pv 1) (pv 0) (by with_unfolding_all rfl)))) (fun _ _ _ _ _=>(pv 0))) pa_nil)))),?_⟩;obtain ⟨_,b,rows,x,rfl,L,hl,q⟩:=h;obtain ⟨ps,hb,hpl,hr⟩:=id L;symm;refine zba hb ?_;refine ziG hb hpl (by omega) (x:=x) (fun i H' Q' hi s q'=>?_) fun p H2 zs f s e ez=>?_
  ·have hrow:=s _ _ (hr i hi);symm;exact q'
  symm;rw [ez];exact q _ s
theorem zgZ {H:Hp} {b:Addr} {rows:List (List Int)} {x:Int} {Q:VK} {E:XK} (h:LL K H b rows) (hl:rows.length≤20) (q:∀ H',Same H H'→Q (.int (cntB rows x:Int)) H'):zd0 K [.ref b,.int x] H Q E:=⟨rfl,b,rows,x,rfl,h,hl,q⟩
theorem zi7 (rs rows:List (List Int)) (n:Nat) (hn:n=rs.length):((List.range n).filter fun _=>true).map (fun i=>V.int ((rs.getD i []).getD 1 0-(cntB rows (1+(i:Int)):Int)))=(zgF rs rows).map V.int:=by
 subst hn;rw [List.filter_eq_self.mpr (fun _ _=>rfl)];unfold zgF;rw [List.map_map];refine List.map_congr_left fun i _=>?_;show V.int _=V.int _;rw [Int.add_comm 1 (i:Int)]
def zcS (K:PySem.W.Frag):Sp:=fun vs H Q _=>vs.length=2∧∃ (a b:Addr) (rs rows:List (List Int)),vs=[.ref a,.ref b]∧LL K H a rs∧LL K H b rows∧rs.length≤8∧rows.length≤20∧(∀ i,i < rs.length→(rs.getD i []).length=2)∧∀ p H',H p=none→Same H H'→H' p=some (.lst ((zgF rs rows).map V.int))→Q (.ref p) H'
theorem zeQ (T:Txt K mg t):FnOk P w K mg base CX0 2 t.f_14 t.d_14 ["readers","rows"] (zcS K):=by
 have G_15:=zf6 (P:=P) (w:=w) (base:=base) T;refine T.F_14.ok sc_14 (fun _ _ _ _ h=>h.1) fun cdv A outer s H vs Q E hr h=>by
  refine ⟨_,(zae (zaj (za6 (zau (sc:=zab s_14) (XN:=["readers","rows"]) (N:=["reader","row","rows"]) (own:=2) (js:=[1]) rfl rfl (by decide +kernel)) rfl (zeE (K:=K) rfl (by rfl) T.z_enumerate (zaa (pv 0) pa_nil)) (fun _ _ _ _ _=>(zeC (K:=K) (n:=2) rfl rfl (zbG (zaA (i:=0) (show List.Nodup [(Str.ofString "reader"),(Str.ofString "row"),(Str.ofString "rows")] by decide +kernel) rfl (Or.inl rfl)) (zbG (zaA (i:=1) (show List.Nodup [(Str.ofString "reader"),(Str.ofString "row"),(Str.ofString "rows")] by decide +kernel) rfl (Or.inl rfl)) pgs_nil)))) (fun _ _ _ _ _=>za5) (fun _ _ _ _ _=>(zav (op_sub) (zaD (zag (K:=K) rfl) (pv 1) zad (fun _ _=>rfl)) (zan G_15 (hr.mono (by decide)) (by rfl) T.m_15 T.F_15.kp T.b_15 .nil zaI (zaa (pv 2) (zaa (pv 0) pa_nil)))))))),?_⟩;obtain ⟨_,a,b,rs,rows,rfl,L1,L2,l1,l2,r2,q⟩:=h;obtain ⟨ps,ha,hpl,hpr⟩:=id L1;have en:(ps.map V.ref).length=rs.length:=by rw [List.length_map];exact hpl
  symm;refine zdt ha ?_;refine zcI (zcl.enum ha) (by omega) (fun _=>true) (fun i=>.int ((rs.getD i []).getD 1 0-(cntB rows (1+(i:Int)):Int))) (fun i H' Q' _ _ q'=>q' _ (Same.refl _)) (fun i H' Q' hi s _ q'=>?_) fun p H2 f s e=>?_
  ·have hi':i < rs.length:=by omega
   have ex:(ps.map V.ref).getD i .non=.ref (ps.getD i 0):=by
    rw [List.getD_eq_getElem?_getD,List.getElem?_map,List.getElem?_eq_getElem (by omega),List.getD_eq_getElem?_getD,List.getElem?_eq_getElem (by omega)];rfl
   rw [ex];have h2:=r2 i hi';have hrow:=s _ _ (hpr i hi');show (_:TE) (some (.int (1+(i:Int)))::some (.ref (ps.getD i 0))::_) _ _;symm;refine zgZ (L2.same s) l2 fun H3 s3=>?_;symm;exact q' _ s3
  rw [zi7 rs rows _ en] at e;exact q p H2 f s e
theorem zeR {H:Hp} {a b:Addr} {rs rows:List (List Int)} {Q:VK} {E:XK} (h1:LL K H a rs) (h2:LL K H b rows) (l1:rs.length≤8) (l2:rows.length≤20) (r2:∀ i,i < rs.length→(rs.getD i []).length=2)
  (q:∀ p H',H p=none→Same H H'→H' p=some (.lst ((zgF rs rows).map V.int))→Q (.ref p) H'):zcS K [.ref a,.ref b] H Q E:=⟨rfl,a,b,rs,rows,rfl,h1,h2,l1,l2,r2,q⟩
def zcd (K:PySem.W.Frag) (C:Addr):Sp:=fun vs H Q _=>vs.length=1∧∃ (x:Addr) (F:Addr→Prop) (st:ExS),vs=[.ref x]∧ExAt C H x F st∧InB st.hs st.rs∧(∀ p H',H p=none→Same H H'→H' p=some (.lst ((zgO st).map V.int))→Q (.ref p) H')
theorem zfz (T:Txt K mg t):FnOk P w K mg base CX0 3 t.f_44 t.d_44 ["self"] (zcd K t.C_Exam):=by
 have G_14:=zeQ (P:=P) (w:=w) (base:=base) T;refine T.F_44.ok sc_44 (fun _ _ _ _ h=>h.1) fun cdv A outer s H vs Q E hr h=>by
  refine ⟨_,(zae (zaj (zan G_14 (hr.mono (by decide)) (by rfl) T.m_14 T.F_14.kp T.b_14 .nil zaI (zaa (zaN (K:=K) rfl (pv 0)) (zaa (zaN (K:=K) rfl (pv 0)) pa_nil))))),?_⟩;obtain ⟨_,x,F,st,rfl,E0,BB,q⟩:=h;have B1:=BB.lp;have B2:=BB.lr;walk_at "hd";have L:LL K H e.b st.rs:=⟨e.ps,SqL.of hhb,I.lp,I.rp⟩
  have M:LL K H e.c st.nm:=⟨e.qs,SqL.of hhc,I.lq,I.rq⟩
  symm;refine zeR L M (by omega) (by have:=I.wf.n10 BB;omega) BB.r2 fun p H2 f s z=>?_;exact q p H2 f s z
theorem zf7 {K:PySem.W.Frag} {C x:Addr} {H:Hp} {F:Addr→Prop} {st:ExS} {Q:VK} {E:XK} (h:ExAt C H x F st) (B:InB st.hs st.rs) (q:(∀ p H',H p=none→Same H H'→H' p=some (.lst ((zgO st).map V.int))→Q (.ref p) H')):zcd K C [.ref x] H Q E:=⟨rfl,x,F,st,rfl,h,B,q⟩
theorem zf8 {K:PySem.W.Frag} {C x:Addr} {H:Hp} {F:Addr→Prop} {st:ExS} {Q:VK} {E:XK} {σ:L2.St} (h:ExAt C H x F st) (B:InB st.hs st.rs) (q:(∀ p H',H p=none→Same H H'→H' p=some (.lst ((zgO st).map V.int))→Q (.ref p) H')):zbw C "left" (zcd K C) E tNil σ (.ref x) H Q:=by
 obtain ⟨dx,fs,e,l⟩:=h.ob;exact za2 e (l _ (by decide +kernel)) (ze5 (zf7 h B q))
def zep (K:PySem.W.Frag) (C:Addr):Sp:=fun vs H Q _=>vs.length=2∧∃ (x:Addr) (F:Addr→Prop) (st:ExS) (q:Qn),vs=[.ref x,.str q.word]∧ExAt C H x F st∧D31 st∧(Act.ask q).ok st∧∀ H',Same H H'→Q (.str (q.ans st)) H'
theorem zg0 (T:Txt K mg t):FnOk P w K mg base CX0 7 t.f_57 t.d_57 ["exam","question"] (zep K t.C_Exam):=by
 have G_58:=zdN (P:=P) (w:=w) (base:=base) T;have G_40:=zdO (P:=P) (w:=w) (base:=base) T;have G_59:=zdQ (P:=P) (w:=w) (base:=base) T;have G_41:=zdW (P:=P) (w:=w) (base:=base) T;have G_60:=zbR (P:=P) (w:=w) (base:=base) T;have G_42:=zf2 (P:=P) (w:=w) (base:=base) T;have G_62:=zf4 (P:=P) (w:=w) (base:=base) T;have G_43:=zeP (P:=P) (w:=w) (base:=base) T;have G_63:=zfy (P:=P) (w:=w) (base:=base) T;have G_44:=zfz (P:=P) (w:=w) (base:=base) T;refine T.F_57.ok sc_57 (fun _ _ _ _ h=>h.1) fun cdv A outer s H vs Q E hr h=>by
  refine ⟨_,(zac (zaK (zah (zaM (K:=K) rfl hr.units0) (pv 1) zax (zat _))
   (zae (zaj (zan G_58 (hr.mono (by decide)) (by rfl) T.m_58 T.F_58.kp T.b_58 .nil zaI (zaa (zbg (pv 0) T.cl_Exam T.me_40 G_40 (hr.mono (by decide)) T.b_40 .nil zaI) pa_nil)))) pss_nil)
   (zac (zaK (zah (zaM (K:=K) rfl hr.units0) (pv 1) zax (zat _))
   (zae (zaj (zan G_59 (hr.mono (by decide)) (by rfl) T.m_59 T.F_59.kp T.b_59 .nil zaI (zaa (zbg (pv 0) T.cl_Exam T.me_41 G_41 (hr.mono (by decide)) T.b_41 .nil zaI) pa_nil)))) pss_nil)
   (zac (zaK (zah (zaM (K:=K) rfl hr.units0) (pv 1) zax (zat _))
   (zae (zaj (zan G_60 (hr.mono (by decide)) (by rfl) T.m_60 T.F_60.kp T.b_60 .nil zaI (zaa (za6 (zau (sc:=zab s_57) (XN:=["exam","question"]) (N:=["row"]) (own:=1) (js:=[]) rfl rfl (by decide +kernel)) rfl (zaR (K:=K) rfl (zbg (pv 0) T.cl_Exam T.me_42 G_42 (hr.mono (by decide)) T.b_42 .nil zaI)) (fun _ _ _ _ _=>(zaA (i:=0) (show List.Nodup [(Str.ofString "row")] by decide +kernel) rfl (Or.inl rfl))) (fun _ _ _ _ _=>za5) (fun _ _ _ _ _=>(zan G_62 (hr.mono (by decide)) (by rfl) T.m_62 T.F_62.kp T.b_62 .nil zaI (zaa (zaD (zag (K:=K) rfl) (pv 0) zad (fun _ _=>rfl)) (zaa (zaD (zag (K:=K) rfl) (pv 0) zad (fun _ _=>rfl)) pa_nil))))) pa_nil)))) pss_nil)
   (zac (zaK (zah (zaM (K:=K) rfl hr.units0) (pv 1) zax (zat _))
   (zae (zaj (zan G_60 (hr.mono (by decide)) (by rfl) T.m_60 T.F_60.kp T.b_60 .nil zaI (zaa (za6 (zau (sc:=zab s_57) (XN:=["exam","question"]) (N:=["paper","mark"]) (own:=2) (js:=[]) rfl rfl (by decide +kernel)) rfl (zeE (K:=K) rfl (by rfl) T.z_enumerate (zaa (zbg (pv 0) T.cl_Exam T.me_43 G_43 (hr.mono (by decide)) T.b_43 .nil zaI) pa_nil)) (fun _ _ _ _ _=>(zeC (K:=K) (n:=2) rfl rfl (zbG (zaA (i:=0) (show List.Nodup [(Str.ofString "paper"),(Str.ofString "mark")] by decide +kernel) rfl (Or.inl rfl)) (zbG (zaA (i:=1) (show List.Nodup [(Str.ofString "paper"),(Str.ofString "mark")] by decide +kernel) rfl (Or.inl rfl)) pgs_nil)))) (fun _ _ _ _ _=>za5) (fun _ _ _ _ _=>(zan G_63 (hr.mono (by decide)) (by rfl) T.m_63 T.F_63.kp T.b_63 .nil zaI (zaa (pv 0) (zaa (pv 1) pa_nil))))) pa_nil)))) pss_nil)
   (zae (zaj (zan G_60 (hr.mono (by decide)) (by rfl) T.m_60 T.F_60.kp T.b_60 .nil zaI (zaa (za6 (zau (sc:=zab s_57) (XN:=["exam","question"]) (N:=["number"]) (own:=1) (js:=[]) rfl rfl (by decide +kernel)) rfl (zaR (K:=K) rfl (zbg (pv 0) T.cl_Exam T.me_44 G_44 (hr.mono (by decide)) T.b_44 .nil zaI)) (fun _ _ _ _ _=>(zaA (i:=0) (show List.Nodup [(Str.ofString "number")] by decide +kernel) rfl (Or.inl rfl))) (fun _ _ _ _ _=>za5) (fun _ _ _ _ _=>(zaG (zaS (K:=K) rfl) (by rfl) T.z_str (by rfl) (zaa (pv 0) pa_nil)))) pa_nil)))))))),?_⟩
  obtain ⟨_,x,F,st,qn,rfl,E0,DD,hok,q⟩:=h;have BB:=DD.inb;have B1:=BB.lp;have B2:=BB.lr
  cases qn with
  | dealing =>
    walk_at "rds";refine zd9 E0 BB ⟨fun hd H1 s1=>?_,fun nm en hd p H1 R1=>?_⟩
    ·refine ⟨rfl,_,rfl,.inl ⟨rfl,?_⟩⟩;have:=q H1 s1;rw [show Qn.dealing.ans st = "not dealt" from if_neg (by rw [hd];decide)] at this;exact this
    ·have hnm:=DD.nm;have:nm=[]:=by unfold ExS.nm at hnm;rw [hd] at hnm;exact hnm
     subst this;obtain ⟨zs,hz,hzl⟩:=R1.lst;have hz0:zs=[]:=List.length_eq_zero_iff.mp hzl;subst hz0;refine ⟨rfl,_,rfl,.inr ⟨p,rfl,hz,fun H2 s2=>?_⟩⟩;have:=q H2 (R1.same.trans s2);rw [show Qn.dealing.ans st = "none" from if_pos (by rw [hd];rfl)] at this;exact this
  | against =>
    have hok:zdH st:=hok;walk_at "rds";refine zec E0 BB ⟨fun hd H1 s1=>?_,fun xs hd FA p H1 f1 s1 e1=>?_⟩
    ·refine ⟨rfl,_,rfl,.inl ⟨rfl,fun H2 s2=>?_⟩⟩;have:=q H2 (s1.trans s2);rw [show Qn.against.ans st = "none" from if_pos (zfn DD hok hd)] at this;exact this
    ·obtain ⟨h0,rfl⟩:=zfV hd hok BB FA;refine ⟨rfl,_,rfl,.inr ⟨p,[1],rfl,e1,by decide,by decide,fun H2 s2=>?_⟩⟩;have:=q H2 (s1.trans s2);rw [show Qn.against.ans st = "1" from if_neg h0] at this;rw [show rowT ([1].map tS)=Str.ofString "1" by decide +kernel];exact this
  | due =>
    walk_at "rds";refine zgY E0 DD fun p1 H1 f1 s1 e1=>?_;refine zba (SqL.of e1) ?_;refine za0 (zaZ (SqL.of e1)) (zaH (by decide)) (fun _=>true) (fun _=>.non) (fun i H' Q' hi s q'=>q') (fun i H' Q' hi s _ q'=>absurd hi (by simp)) fun p2 hp2=>?_;symm;exact zbf (xs:=[]) (SqL.of zaq) (fun x hx=>absurd hx (by simp)) (by decide) (q _ (s1.trans (zaC hp2)))
  | marks =>
    walk_at "rds";refine zfx E0 DD fun p1 H1 f1 s1 e1=>?_;have hsq:SqL K H1 p1 ((List.range st.hs.length).map fun _=>V.non):=SqL.of e1;have hlen:((List.range st.hs.length).map fun _=>V.non).length=st.hs.length:=by rw [List.length_map,List.length_range]
    refine zdt hsq ?_;refine zcI (zcl.enum hsq) (by omega) (fun _=>true) (fun i=>.str (opnT ((i:Int)+1))) (fun i H' Q' _ _ q'=>q' _ (Same.refl _)) (fun i H' Q' hi s _ q'=>?_) fun p2 H2 f2 s2 e2=>?_
    ·rw [hlen] at hi;rw [zd4 hi];show (_:TE) (some (.int (1+(i:Int)))::some .non::_) _ _;symm;refine zf5 (by omega) ?_;rw [show (1:Int)+(i:Int)=(i:Int)+1 by omega];exact q' _ (Same.refl _)
    rw [List.filter_eq_self.mpr (fun _ _=>rfl),hlen] at e2;have e2:H2 p2=some (.lst (((List.range st.hs.length).map fun i:Nat=>opnT ((i:Int)+1)).map V.str)):=by rw [e2,List.map_map];rfl
    symm;refine zbf (SqL.of e2) (fun x hx=>?_) (by rw [List.length_map,List.length_range];omega) (q _ (s1.trans s2));obtain ⟨i,hi,rfl⟩:=List.mem_map.mp hx;have:=List.mem_range.mp hi;exact Nat.le_trans (zh5 (by omega)) (by decide)
  | left =>
    walk_at "rds";refine zf8 E0 BB fun p1 H1 f1 s1 e1=>?_;have hlf:zgO st=st.rs.map fun r=>r.getD 1 0:=zh6 DD;rw [hlf] at e1;have hbd:∀ x∈st.rs.map (fun r=>r.getD 1 0),x.natAbs < 10 ^ 40:=fun x hx=>by
     obtain ⟨r,hr,rfl⟩:=List.mem_map.mp hx;obtain ⟨i,hi,rfl⟩:=L2.mem_getD (d:=[]) hr;have:=BB.rl i hi;show ((st.rs.getD i []).getD 1 0).natAbs < _;omega
    have hll:(st.rs.map fun r=>r.getD 1 0).length≤8:=by rw [List.length_map];exact B2
    have hans:q=q:=rfl;have q:∀ H',Same H H'→Q (.str (rowT ((st.rs.map fun r=>r.getD 1 0).map tS))) H':=fun H' s=>by
     have:=q H' s;rw [show Qn.left.ans st=rowT ((st.rs.map fun r=>r.getD 1 0).map tS) by rw [List.map_map];rfl] at this;exact this
    generalize (st.rs.map fun r=>r.getD 1 0)=xs at *;refine zba (SqL.of e1) ?_;refine za0 (zaZ (SqL.of e1)) (zaH (by rw [List.length_map];omega)) (fun _=>true) (fun i=>.str (tS (xs.getD i 0))) (fun i H' Q' hi s q'=>q') (fun i H' Q' hi s _ q'=>?_) fun p2 hp2=>?_
    ·rw [List.length_map] at hi;have ex:((xs.map V.int).getD i .non)=.int (xs.getD i 0):=zfe hi;rw [ex];show (_:TE) (some (.int _)::_) _ _;symm;exact zbz (hbd _ (getD_mem hi)) q'
    rw [List.filter_eq_self.mpr (fun _ _=>rfl),List.length_map];have em:(List.range xs.length).map (fun i=>V.str (tS (xs.getD i 0)))=(xs.map tS).map V.str:=by
     conv=>rhs;rw [← za4 xs 0]
     rw [List.map_map,List.map_map];rfl
    rw [em];have e2:(upd H1 p2 (.lst ((xs.map tS).map V.str))) p2=some (.lst ((xs.map tS).map V.str)):=zaq;symm;refine zbf (SqL.of e2) (fun x hx=>?_) (by rw [List.length_map];omega) (q _ (s1.trans (zaC hp2)));obtain ⟨y,hy,rfl⟩:=List.mem_map.mp hx;have:=za8 (hbd y hy);omega
theorem zii {C x:Addr} {H:Hp} {F:Addr→Prop} {st:ExS} {q:Qn} {Q:VK} {E:XK} (h:ExAt C H x F st) (D:D31 st) (hok:(Act.ask q).ok st) (k:∀ H',Same H H'→Q (.str (q.ans st)) H'):zep K C [.ref x,.str q.word] H Q E:=⟨rfl,x,F,st,q,rfl,h,D,hok,k⟩
def za3 (K:PySem.W.Frag) (C:Addr) (xa:XAd):Sp:=fun vs H Q E=>vs.length=1∧∃ (x:Addr) (F:Addr→Prop) (st:ExS),vs=[.ref x]∧ExAt C H x F st∧(st.dl=none→Q .non H)∧(st.dl.isSome=true→E (.ref xa.OutOfTime) none H)
theorem zaE (T:Txt K mg t):FnOk P w K mg base (CX1 P w) 1 t.f_45 t.d_45 ["self"] (za3 K t.C_Exam t.xa):=by
 refine T.F_45.okX sc_45 (fun _ _ _ _ h=>h.1) fun cdv A outer s H vs Q E hr h=>by
  refine ⟨_,(zae (zaK (zaL (K:=K) rfl (zaN (K:=K) rfl (pv 0)) (fun _=>rfl))
   (zae (zcK (by rfl) T.mx_OutOfTime T.xc_OutOfTime)) pss_nil)),?_⟩
  obtain ⟨_,x,F,st,rfl,E0,q1,q2⟩:=h;walk_at "hd";symm;refine zfN (fun hd=>?_) (fun hd=>?_)
  ·symm;exact q2 hd
  ·symm;exact q1 (zeH (by rw [hd];decide))
theorem zaV {K:PySem.W.Frag} {xa:XAd} {C x:Addr} {H:Hp} {F:Addr→Prop} {st:ExS} {Q:VK} {E:XK} {σ:L2.St} (h:ExAt C H x F st) (q1:st.dl=none→Q .non H) (q2:st.dl.isSome=true→E (.ref xa.OutOfTime) none H):zbw C "refuse_behind_dealing" (za3 K C xa) E tNil σ (.ref x) H Q:=by
 obtain ⟨dx,fs,e,l⟩:=h.ob;exact za2 e (l _ (by decide +kernel)) (ze5 ⟨rfl,x,F,st,rfl,h,q1,q2⟩)
local macro_rules | `(tactic| walk_at "rd1")=>`(tactic| (with_reducible refine zhW ?_))
local macro_rules | `(tactic| walk_at "rd1")=>`(tactic| (with_reducible refine r_methX ?_))
local macro_rules | `(tactic| walk_at "rd1")=>`(tactic| (with_reducible refine zhV ?_))
local macro_rules | `(tactic| walk_at "rd1")=>`(tactic| (with_reducible refine zgm ?_))
def zbO (K:PySem.W.Frag) (xa:XAd):Sp:=fun vs H Q E=>vs.length=3∧∃ n l m:Int,vs=[.int n,.int l,.int m]∧(l≤n→n≤m→Q .non H)∧(¬(l≤n∧n≤m)→E (.ref xa.UnknownNumber) none H)
theorem zbn (T:Txt K mg t):FnOk P w K mg base (CX1 P w) 1 t.f_26 t.d_26 ["number","least","most"] (zbO K t.xa):=by
 refine T.F_26.okX sc_26 (fun _ _ _ _ h=>h.1) fun cdv A outer s H vs Q E hr h=>by
  refine ⟨_,(zae (zaK (zdi (zah (op_lt) (pv 0) (pv 1) (zat _)) (zcn (zah (op_gt) (pv 0) (pv 2) (zat _)))).pt
   (zae (zcK (by rfl) T.mx_UnknownNumber T.xc_UnknownNumber)) pss_nil)),?_⟩
  obtain ⟨_,n,l,m,rfl,q1,q2⟩:=h;symm;refine zbm (fun h0=>?_) (fun h0=>?_)
  ·refine iteT ?_;symm;exact q2 (by omega)
  ·symm;refine zbm (fun h1=>?_) (fun h1=>?_)
   ·symm;exact q2 (by omega)
   ·symm;exact q1 (by omega) (by omega)
theorem zbr {xa:XAd} {H:Hp} {n l m:Int} {Q:VK} {E:XK} (q1:l≤n→n≤m→Q .non H) (q2:¬(l≤n∧n≤m)→E (.ref xa.UnknownNumber) none H):zbO K xa [.int n,.int l,.int m] H Q E:=⟨rfl,n,l,m,rfl,q1,q2⟩
def zcs (K:PySem.W.Frag) (xa:XAd):Sp:=fun vs H Q E=>vs.length=2∧∃ n m:Int,vs=[.int n,.int m]∧(n < m→Q .non H)∧(¬n < m→E (.ref xa.Full) none H)
theorem zct (T:Txt K mg t):FnOk P w K mg base (CX1 P w) 1 t.f_28 t.d_28 ["many","most"] (zcs K t.xa):=by
 refine T.F_28.okX sc_28 (fun _ _ _ _ h=>h.1) fun cdv A outer s H vs Q E hr h=>by
  refine ⟨_,(zae (zaK (zah (op_ge) (pv 0) (pv 1) (zat _))
   (zae (zcK (by rfl) T.mx_Full T.xc_Full)) pss_nil)),?_⟩
  obtain ⟨_,n,m,rfl,q1,q2⟩:=h;symm;refine zbm (fun h0=>?_) (fun h0=>?_)
  ·symm;exact q2 (by omega)
  ·symm;exact q1 (by omega)
theorem zcT {xa:XAd} {H:Hp} {n m:Int} {Q:VK} {E:XK} (q1:n < m→Q .non H) (q2:¬n < m→E (.ref xa.Full) none H):zcs K xa [.int n,.int m] H Q E:=⟨rfl,n,m,rfl,q1,q2⟩
def zbE (K:PySem.W.Frag) (C:Addr) (xa:XAd):Sp:=fun vs H Q E=>vs.length=2∧∃ (x:Addr) (F:Addr→Prop) (st:ExS) (h:Int),vs=[.ref x,.int h]∧ExAt C H x F st∧InB st.hs st.rs∧(∀ f,whyP st h=some f→E (.ref (xa.at f)) none H)∧(whyP st h=none→∀ H' F',ExFr H H' F F'→ExAt C H' x F' { st with hs:=st.hs++[h] }→Q (.int ((st.hs.length:Int)+1)) H')
theorem zcC (T:Txt K mg t):FnOk P w K mg base (CX1 P w) 2 t.f_31 t.d_31 ["self","house"] (zbE K t.C_Exam t.xa):=by
 have G_45:=zaE (P:=P) (w:=w) (base:=base) T;have G_26:=zbn (P:=P) (w:=w) (base:=base) T;have G_28:=zct (P:=P) (w:=w) (base:=base) T;refine T.F_31.okX sc_31 (fun _ _ _ _ h=>h.1) fun cdv A outer s H vs Q E hr h=>by
  refine ⟨_,(zac (zaz (zbg (pv 0) T.cl_Exam T.me_45 G_45 (hr.mono (by decide)) T.b_45 .nil passX))
   (zac (zaz (zan G_26 (hr.mono (by decide)) (by rfl) T.m_26 T.F_26.kp T.b_26 .nil passX (zaa (pv 1) (zaa zad (zaa (zb3 (v:=.int 6) (by rfl) T.v_MOST_HOUSES T.w_MOST_HOUSES) pa_nil)))))
   (zac (zaz (zan G_28 (hr.mono (by decide)) (by rfl) T.m_28 T.F_28.kp T.b_28 .nil passX (zaa (zar (zao (K:=K) rfl) (by rfl) T.z_len (by rfl) (zaa (zaN (K:=K) rfl (pv 0)) pa_nil)) (zaa (zb3 (v:=.int 10) (by rfl) T.v_MOST_PAPERS T.w_MOST_PAPERS) pa_nil))))
   (zac (zaz (zaT (K:=K) rfl PySem.F.plainAttrs_list PySem.F.slot_list_append PySem.F.type_list_append mt_append (zaN (K:=K) rfl (pv 0)) (zaa (pv 1) pa_nil)))
   (zae (zaj (zar (zao (K:=K) rfl) (by rfl) T.z_len (by rfl) (zaa (zaN (K:=K) rfl (pv 0)) pa_nil)))))))),?_⟩
  obtain ⟨_,x,F,st,h,rfl,E0,BB,qe,q⟩:=h;have E0':=E0;walk_at "hd";symm;refine zaV E0' (fun hd=>?_) (fun hd=>qe .time (by unfold whyP;rw [if_pos hd]));symm;refine zbr (fun h1 h2=>?_) (fun hn=>qe .unknown (by unfold whyP;rw [hd,if_neg (by decide),if_neg hn]));symm;refine zcT (fun h3=>?_) (fun hn=>qe .full (by unfold whyP;rw [hd,if_neg (by decide),if_pos ⟨h1,h2⟩,if_neg (by omega)]));have q:=q (zfh hd ⟨h1,h2,by omega⟩);symm;refine zap hha (by rw [List.length_map];omega) fun H1 b1 e1=>?_;have I1:=I.paper hd b1 e1;have hob:=I1.ob;have e1':=I1.ha;symm;have el:((st.hs++[h]).length:Int)=(st.hs.length:Int)+1:=by rw [List.length_append,List.length_singleton];omega
  rw [el];exact q H1 F (ExFr.but b1 ((hF _).mpr own_a) fun b z=>.inl z) ⟨e,kvs,rfl,hF,I1⟩
theorem zcU {K:PySem.W.Frag} {xa:XAd} {C x:Addr} {H:Hp} {F:Addr→Prop} {st:ExS} {h:Int} {Q:VK} {E:XK} (hE:ExAt C H x F st) (B:InB st.hs st.rs) (qe:∀ f,whyP st h=some f→E (.ref (xa.at f)) none H) (q:whyP st h=none→∀ H' F',ExFr H H' F F'→ExAt C H' x F' { st with hs:=st.hs++[h] }→Q (.int ((st.hs.length:Int)+1)) H'):zbE K C xa [.ref x,.int h] H Q E:=⟨rfl,x,F,st,h,rfl,hE,B,qe,q⟩
def zbi (K:PySem.W.Frag) (xa:XAd):Sp:=fun vs H Q E=>vs.length=2∧∃ n m:Int,vs=[.int n,.int m]∧(0≤n→n≤m→Q .non H)∧(¬(0≤n∧n≤m)→E (.ref xa.OutOfBounds) none H)
theorem zaY (T:Txt K mg t):FnOk P w K mg base (CX1 P w) 1 t.f_27 t.d_27 ["number","most"] (zbi K t.xa):=by
 refine T.F_27.okX sc_27 (fun _ _ _ _ h=>h.1) fun cdv A outer s H vs Q E hr h=>by
  refine ⟨_,(zae (zaK (zdi (zah (op_lt) (pv 0) zad (zat _)) (zcn (zah (op_gt) (pv 0) (pv 1) (zat _)))).pt
   (zae (zcK (by rfl) T.mx_OutOfBounds T.xc_OutOfBounds)) pss_nil)),?_⟩
  obtain ⟨_,n,m,rfl,q1,q2⟩:=h;symm;refine zbm (fun h0=>?_) (fun h0=>?_)
  ·refine iteT ?_;symm;exact q2 (by omega)
  ·symm;refine zbm (fun h1=>?_) (fun h1=>?_)
   ·symm;exact q2 (by omega)
   ·symm;exact q1 (by omega) (by omega)
theorem zbk {xa:XAd} {H:Hp} {n m:Int} {Q:VK} {E:XK} (q1:0≤n→n≤m→Q .non H) (q2:¬(0≤n∧n≤m)→E (.ref xa.OutOfBounds) none H):zbi K xa [.int n,.int m] H Q E:=⟨rfl,n,m,rfl,q1,q2⟩
def zbu (K:PySem.W.Frag) (C:Addr) (xa:XAd):Sp:=fun vs H Q E=>vs.length=3∧∃ (x:Addr) (F:Addr→Prop) (st:ExS) (h:Int) (l:Int),vs=[.ref x,.int h,.int l]∧ExAt C H x F st∧InB st.hs st.rs∧(∀ f,whyR st h l=some f→E (.ref (xa.at f)) none H)∧(whyR st h l=none→∀ H' F',ExFr H H' F F'→ExAt C H' x F' { st with rs:=st.rs++[[h,l]] }→Q (.int ((st.rs.length:Int)+1)) H')
theorem zcm (T:Txt K mg t):FnOk P w K mg base (CX1 P w) 2 t.f_32 t.d_32 ["self","house","limit"] (zbu K t.C_Exam t.xa):=by
 have G_45:=zaE (P:=P) (w:=w) (base:=base) T;have G_26:=zbn (P:=P) (w:=w) (base:=base) T;have G_27:=zaY (P:=P) (w:=w) (base:=base) T;have G_28:=zct (P:=P) (w:=w) (base:=base) T;refine T.F_32.okX sc_32 (fun _ _ _ _ h=>h.1) fun cdv A outer s H vs Q E hr h=>by
  refine ⟨_,(zac (zaz (zbg (pv 0) T.cl_Exam T.me_45 G_45 (hr.mono (by decide)) T.b_45 .nil passX))
   (zac (zaz (zan G_26 (hr.mono (by decide)) (by rfl) T.m_26 T.F_26.kp T.b_26 .nil passX (zaa (pv 1) (zaa zad (zaa (zb3 (v:=.int 6) (by rfl) T.v_MOST_HOUSES T.w_MOST_HOUSES) pa_nil)))))
   (zac (zaz (zan G_27 (hr.mono (by decide)) (by rfl) T.m_27 T.F_27.kp T.b_27 .nil passX (zaa (pv 2) (zaa (zb3 (v:=.int 30) (by rfl) T.v_MOST_LIMIT T.w_MOST_LIMIT) pa_nil))))
   (zac (zaz (zan G_28 (hr.mono (by decide)) (by rfl) T.m_28 T.F_28.kp T.b_28 .nil passX (zaa (zar (zao (K:=K) rfl) (by rfl) T.z_len (by rfl) (zaa (zaN (K:=K) rfl (pv 0)) pa_nil)) (zaa (zb3 (v:=.int 8) (by rfl) T.v_MOST_READERS T.w_MOST_READERS) pa_nil))))
   (zac (zaz (zaT (K:=K) rfl PySem.F.plainAttrs_list PySem.F.slot_list_append PySem.F.type_list_append mt_append (zaN (K:=K) rfl (pv 0)) (zaa (zaB (zaa (pv 1) (zaa (pv 2) pa_nil))) pa_nil)))
   (zae (zaj (zar (zao (K:=K) rfl) (by rfl) T.z_len (by rfl) (zaa (zaN (K:=K) rfl (pv 0)) pa_nil))))))))),?_⟩
  obtain ⟨_,x,F,st,h,l,rfl,E0,BB,qe,q⟩:=h;have E0':=E0;walk_at "hd";have lp:=I.lp;symm;refine zaV E0' (fun hd=>?_) (fun hd=>qe .time (by unfold whyR;rw [if_pos hd]));symm;refine zbr (fun h1 h2=>?_) (fun hn=>qe .unknown (by unfold whyR;rw [hd,if_neg (by decide),if_neg hn]));symm;refine zbk (fun h3 h4=>?_) (fun hn=>qe .bounds (by unfold whyR;rw [hd,if_neg (by decide),if_pos ⟨h1,h2⟩,if_neg hn]));symm;refine zcT (fun h5=>?_) (fun hn=>qe .full (by unfold whyR;rw [hd,if_neg (by decide),if_pos ⟨h1,h2⟩,if_pos ⟨h3,h4⟩,if_neg (by omega)]));have q:=q (zfi hd ⟨h1,h2,h3,h4,by omega⟩);symm;refine zam (by simp) fun r H1 f1 s1 e1=>?_;symm;refine zap (s1 _ _ hhb) (by rw [List.length_map];omega) fun H2 b2 e2=>?_;have I1:ExIn t.C_Exam H1 e st kvs:=I.keep fun b o _ z=>s1 b o z;have I2:=I1.reader (row:=[h,l]) (I.new f1) e1 b2 e2;have hob:=I2.ob;have e1':=I2.hb;symm;have el:((e.ps++[r]).length:Int)=(st.rs.length:Int)+1:=by rw [List.length_append,List.length_singleton];omega
  rw [el];refine q H2 _ ⟨fun b o eb nb=>?_,fun b z=>?_⟩ I2.at
  ·rw [b2 _ (fun z=>nb ((hF _).mpr (by rw [z];exact own_b)))];exact s1 _ _ eb
  ·rcases zgN z with z | z
   ·exact .inl ((hF b).mpr z)
   ·exact .inr (z▸f1)
theorem zcD {K:PySem.W.Frag} {xa:XAd} {C x:Addr} {H:Hp} {F:Addr→Prop} {st:ExS} {h:Int} {l:Int} {Q:VK} {E:XK} (hE:ExAt C H x F st) (B:InB st.hs st.rs) (qe:∀ f,whyR st h l=some f→E (.ref (xa.at f)) none H) (q:whyR st h l=none→∀ H' F',ExFr H H' F F'→ExAt C H' x F' { st with rs:=st.rs++[[h,l]] }→Q (.int ((st.rs.length:Int)+1)) H'):zbu K C xa [.ref x,.int h,.int l] H Q E:=⟨rfl,x,F,st,h,l,rfl,hE,B,qe,q⟩
def zbY (K:PySem.W.Frag) (C:Addr) (xa:XAd):Sp:=fun vs H Q E=>vs.length=2∧∃ (x:Addr) (F:Addr→Prop) (st:ExS) (s:Int),vs=[.ref x,.int s]∧ExAt C H x F st∧InB st.hs st.rs∧(∀ f,whyS st s=some f→E (.ref (xa.at f)) none H)∧(whyS st s=none→∀ H' F',ExFr H H' F F'→ExAt C H' x F' { st with step:=s }→Q (.int s) H')
theorem zdo (T:Txt K mg t):FnOk P w K mg base (CX1 P w) 2 t.f_33 t.d_33 ["self","step"] (zbY K t.C_Exam t.xa):=by
 have G_45:=zaE (P:=P) (w:=w) (base:=base) T;have G_27:=zaY (P:=P) (w:=w) (base:=base) T;refine T.F_33.okX sc_33 (fun _ _ _ _ h=>h.1) fun cdv A outer s H vs Q E hr h=>by
  refine ⟨_,(zac (zaz (zbg (pv 0) T.cl_Exam T.me_45 G_45 (hr.mono (by decide)) T.b_45 .nil passX))
   (zac (zaz (zan G_27 (hr.mono (by decide)) (by rfl) T.m_27 T.F_27.kp T.b_27 .nil passX (zaa (pv 1) (zaa (zb3 (v:=.int 100) (by rfl) T.v_MOST_STEP T.w_MOST_STEP) pa_nil))))
   (zac (zbK (K:=K) rfl (pv 0) (pv 1))
   (zae (zaj (pv 1)))))),?_⟩
  obtain ⟨_,x,F,st,s,rfl,E0,BB,qe,q⟩:=h;have E0':=E0;walk_at "hd";symm;refine zaV E0' (fun hd=>?_) (fun hd=>qe .time (by unfold whyS;rw [if_pos hd]));symm;refine zbk (fun h3 h4=>?_) (fun hn=>qe .bounds (by unfold whyS;rw [hd,if_neg (by decide),if_neg hn]));have hp:=And.intro h3 h4;have q:=q (zhX hd hp);symm;refine zbb hob hcl nS (show 6 < 1000 by decide) fun H1 b1 e1=>?_;have I1:=I.setStep b1 e1 hp;symm;exact q H1 F (ExFr.but b1 ((hF _).mpr own_x) fun b z=>.inl z) ⟨e,kvs,rfl,hF,I1⟩
theorem zd1 {K:PySem.W.Frag} {xa:XAd} {C x:Addr} {H:Hp} {F:Addr→Prop} {st:ExS} {s:Int} {Q:VK} {E:XK} (hE:ExAt C H x F st) (B:InB st.hs st.rs) (qe:∀ f,whyS st s=some f→E (.ref (xa.at f)) none H) (q:whyS st s=none→∀ H' F',ExFr H H' F F'→ExAt C H' x F' { st with step:=s }→Q (.int s) H'):zbY K C xa [.ref x,.int s] H Q E:=⟨rfl,x,F,st,s,rfl,hE,B,qe,q⟩
def zaW (K:PySem.W.Frag) (C:Addr) (xa:XAd):Sp:=fun vs H Q E=>vs.length=1∧∃ (x:Addr) (F:Addr→Prop) (st:ExS),vs=[.ref x]∧ExAt C H x F st∧(st.dl.isSome=true→Q .non H)∧(st.dl=none→E (.ref xa.OutOfTime) none H)
theorem zbo (T:Txt K mg t):FnOk P w K mg base (CX1 P w) 1 t.f_46 t.d_46 ["self"] (zaW K t.C_Exam t.xa):=by
 refine T.F_46.okX sc_46 (fun _ _ _ _ h=>h.1) fun cdv A outer s H vs Q E hr h=>by
  refine ⟨_,(zae (zaK (zeW (zaL (K:=K) rfl (zaN (K:=K) rfl (pv 0)) (fun _=>rfl)))
   (zae (zcK (by rfl) T.mx_OutOfTime T.xc_OutOfTime)) pss_nil)),?_⟩
  obtain ⟨_,x,F,st,rfl,E0,q1,q2⟩:=h;walk_at "hd";symm;refine zkG (fun hd=>?_) (fun hd=>?_)
  ·symm;exact q2 (zeH (by rw [hd];decide))
  ·symm;exact q1 hd
theorem zcE {K:PySem.W.Frag} {xa:XAd} {C x:Addr} {H:Hp} {F:Addr→Prop} {st:ExS} {Q:VK} {E:XK} {σ:L2.St} (h:ExAt C H x F st) (q1:st.dl.isSome=true→Q .non H) (q2:st.dl=none→E (.ref xa.OutOfTime) none H):zbw C "refuse_ahead_of_dealing" (zaW K C xa) E tNil σ (.ref x) H Q:=by
 obtain ⟨dx,fs,e,l⟩:=h.ob;exact za2 e (l _ (by decide +kernel)) (ze5 ⟨rfl,x,F,st,rfl,h,q1,q2⟩)
def zb0 (K:PySem.W.Frag) (C:Addr):Sp:=fun vs H Q _=>vs.length=3∧False
theorem zb1 (T:Txt K mg t):FnOk P w K mg base CX0 1 t.f_47 t.d_47 ["self","paper","reader"] (zb0 K t.C_Exam):=by
 exact T.F_47.ok sc_47 (fun _ _ _ _ h=>h.1) fun _ _ _ _ _ _ _ _ _ h=>h.2.elim
def zcV (K:PySem.W.Frag) (C:Addr):Sp:=fun vs H Q _=>vs.length=2∧False
theorem zcW (T:Txt K mg t):FnOk P w K mg base CX0 1 t.f_51 t.d_51 ["self","paper"] (zcV K t.C_Exam):=by
 exact T.F_51.ok sc_51 (fun _ _ _ _ h=>h.1) fun _ _ _ _ _ _ _ _ _ h=>h.2.elim
def zcX (K:PySem.W.Frag) (C:Addr) (xa:XAd):Sp:=fun vs H Q E=>vs.length=4∧∃ (x:Addr) (F:Addr→Prop) (st:ExS) (k r p:Int),vs=[.ref x,.int k,.int r,.int p]∧ExAt C H x F st∧D31 st∧E (.ref (xa.at (whyA st))) none H
theorem zeS (T:Txt K mg t):FnOk P w K mg base (CX1 P w) 2 t.f_35 t.d_35 ["self","paper","reader","points"] (zcX K t.C_Exam t.xa):=by
 have G_46:=zbo (P:=P) (w:=w) (base:=base) T;have G_26:=zbn (P:=P) (w:=w) (base:=base) T;have G_47:=zb1 (P:=P) (w:=w) (base:=base) T;have G_27:=zaY (P:=P) (w:=w) (base:=base) T;have G_51:=zcW (P:=P) (w:=w) (base:=base) T;refine T.F_35.okX sc_35 (fun _ _ _ _ h=>h.1) fun cdv A outer s H vs Q E hr h=>by
  refine ⟨_,(zac (zaz (zbg (pv 0) T.cl_Exam T.me_46 G_46 (hr.mono (by decide)) T.b_46 .nil passX))
   (zac (zaz (zan G_26 (hr.mono (by decide)) (by rfl) T.m_26 T.F_26.kp T.b_26 .nil passX (zaa (pv 1) (zaa zad (zaa (zar (zao (K:=K) rfl) (by rfl) T.z_len (by rfl) (zaa (zaN (K:=K) rfl (pv 0)) pa_nil)) pa_nil)))))
   (zac (zaz (zan G_26 (hr.mono (by decide)) (by rfl) T.m_26 T.F_26.kp T.b_26 .nil passX (zaa (pv 2) (zaa zad (zaa (zar (zao (K:=K) rfl) (by rfl) T.z_len (by rfl) (zaa (zaN (K:=K) rfl (pv 0)) pa_nil)) pa_nil)))))
   (zac (zaz (zb9 (pv 0) T.cl_Exam T.me_47 G_47 (hr.mono (by decide)) T.b_47 .nil zaI (zaa (pv 1) (zaa (pv 2) pa_nil))))
   (zac (zaz (zan G_27 (hr.mono (by decide)) (by rfl) T.m_27 T.F_27.kp T.b_27 .nil passX (zaa (pv 3) (zaa (zb3 (v:=.int 100) (by rfl) T.v_MOST_POINTS T.w_MOST_POINTS) pa_nil))))
   (zac (zjJ (zhs hr) (zaD (zag (K:=K) rfl) (zaN (K:=K) rfl (pv 0)) (zav (op_sub) (pv 1) zad) (fun _ _=>rfl)) (pv 2) (pv 3) rfl)
   (zae (zaj (zb9 (pv 0) T.cl_Exam T.me_51 G_51 (hr.mono (by decide)) T.b_51 .nil zaI (zaa (pv 1) pa_nil)))))))))),?_⟩
  obtain ⟨_,x,F,st,k,r,p,rfl,E0,DD,qe⟩:=h;have E0':=E0;have hdd:=DD.dl;walk_at "hd";symm;refine zcE E0' (fun hd=>?_) (fun hd=>?_)
  ·rw [show whyA st=.unknown from if_pos hd] at qe;have h0:st.hs=[]:=by
    rcases hdd with z | z
    ·rw [z] at hd;cases hd
    ·exact z.2
   symm;refine zbr (fun k1 k2=>?_) (fun hn=>qe);rw [h0] at k2;simp at k2;omega
  ·rw [show whyA st=.time from if_neg (by rw [hd];decide)] at qe;exact qe
theorem zfA {K:PySem.W.Frag} {xa:XAd} {C x:Addr} {H:Hp} {F:Addr→Prop} {st:ExS} {k r p:Int} {Q:VK} {E:XK} (h:ExAt C H x F st) (D:D31 st) (qe:E (.ref (xa.at (whyA st))) none H):zcX K C xa [.ref x,.int k,.int r,.int p] H Q E:=⟨rfl,x,F,st,k,r,p,rfl,h,D,qe⟩
theorem zgs {B H H':Hp} {p:Addr} {rs:List (List Int)} (R:zaP B p rs H) (s:Same H H'):zaP B p rs H':=by
 obtain ⟨a1,a2,ps,a3,a4,a5,a6⟩:=R;exact ⟨a1.trans s,a2,ps,s _ _ a3,a4,a5,fun i hi=>⟨s _ _ (a6 i hi).1,(a6 i hi).2⟩⟩
def zd2 (K:PySem.W.Frag):Sp:=fun vs H Q _=>vs.length=1∧∃ (a:Addr) (ns:List Int),vs=[.ref a]∧SqL K H a (ns.map V.int)∧ns.length≤8∧∀ p H',zaP H p (prsB ns) H'→Q (.ref p) H'
theorem zf9 (T:Txt K mg t):FnOk P w K mg base CX0 1 t.f_18 t.d_18 ["numbers"] (zd2 K):=by
 refine T.F_18.ok sc_18 (fun _ _ _ _ h=>h.1) fun cdv A outer s H vs Q E hr h=>by
  refine ⟨_,(zac (zaF (i:=1) sc_18.nd rfl (Or.inl rfl) (zaB pa_nil))
   (zac (zb7 PassesOwn.never rfl (ziJ (K:=K) rfl (by rfl) T.z_enumerate (zaa (pv 0) pa_nil)) (zeC (K:=K) (n:=2) rfl rfl (zbG (zaA (i:=2) sc_18.nd rfl (Or.inl rfl)) (zbG (zaA (i:=3) sc_18.nd rfl (Or.inl rfl)) pgs_nil)))
   (zae (zb7 PassesOwn.never rfl (zaR (K:=K) rfl (zcf (zcg (K:=K) rfl) (pv 0) (zc1 (zav (op_addG) (pv 2) zad)) po_none)) (zaA (i:=4) sc_18.nd rfl (Or.inl rfl))
   (zae (zaz (zaT (K:=K) rfl PySem.F.plainAttrs_list PySem.F.slot_list_append PySem.F.type_list_append mt_append (pv 1) (zaa (zaB (zaa (pv 3) (zaa (pv 4) pa_nil))) pa_nil)))))))
   (zae (zaj (pv 1))))),?_⟩
  obtain ⟨_,a,ns,rfl,ha,hl,q⟩:=h;have hpl:=prs_len ns;have hpl2:(prsB ns).length≤64:=Nat.le_trans hpl (Nat.mul_le_mul hl hl);symm;refine zam (by decide) fun p1 H1 f1 s1 e1=>?_;symm;refine zdt (s1.seq ha) ?_;refine zj4 (xs:=ns.map V.int) (fun i σ H'=>∃ rows v2 v3 v4,σ=[some (.ref a),some (.ref p1),v2,v3,v4]∧zaP H p1 rows H'∧rows++prsB (ns.drop i)=prsB ns) ⟨[],none,none,none,rfl,zaP.start f1 s1 e1,by simp⟩ ?_ ?_ ?_
  ·rintro i σ H' _ ⟨rows,_,_,_,rfl,R,_⟩;exact R.same.seq ha
  ·rintro i x σ H0 H' hx ⟨rows,v2,v3,v4,rfl,R0,er⟩ s0;obtain ⟨hi,rfl⟩:=zhC hx;have R:zaP H p1 rows H':=zgs R0 s0;rw [ziL hi] at er;symm;refine zbx (R.same.seq ha) fun p2 H2 f2 s2 e2=>?_;have np:p2≠p1:=by
    obtain ⟨zs,hz,_⟩:=R.lst;exact (zaf hz f2).symm
   have ei:(0+(i:Int)+1)=((i+1:Nat):Int):=by omega
   rw [ei,zhD,← List.map_drop] at e2;refine zba (SqL.of e2) ?_;generalize ens:ns.drop (i+1)=ys at *;generalize ns.getD i 0=x at *;refine zeB (xs:=ys.map V.int) (fun j σ H'=>∃ rows2 v4,σ=[some (.ref a),some (.ref p1),some (.int (0+(i:Int))),some (.int x),v4]∧zaP H p1 rows2 H'∧H' p2=some (.lst (ys.map V.int))∧rows2++((ys.drop j).map (fun y=>[x,y])++prsB ys)=prsB ns) ⟨rows,v4,rfl,zgs R s2,e2,er⟩ ?_ ?_ ?_
   ·rintro j σ H3 _ ⟨rows2,_,rfl,R3,e3,_⟩;exact SqL.of e3
   ·rintro j y σ H3 hy ⟨rows2,v4,rfl,R3,e3,er3⟩;obtain ⟨hj,rfl⟩:=zhC hy;obtain ⟨zs,hz,hzl⟩:=R3.lst;have hlen:rows2.length≤64:=by
     have:=congrArg List.length er3;rw [List.length_append] at this;omega
    symm;refine zam (by simp) fun p4 H4 f4 s4 e4=>?_;symm;refine zap (s4 _ _ hz) (by omega) fun H5 b5 e5=>?_;symm;refine ⟨rows2++[[x,ys.getD j 0]],_,rfl,R3.push f4 s4 e4 (s4 _ _ hz) b5 e5,by rw [b5 _ np];exact s4 _ _ e3,?_⟩;rw [List.drop_eq_getElem_cons hj] at er3;rw [List.append_assoc,← er3,List.getD_eq_getElem?_getD,List.getElem?_eq_getElem hj];rfl
   ·rintro σ H3 ⟨rows2,v4,rfl,R3,e3,er3⟩;rw [List.length_map,List.drop_length,List.map_nil,List.nil_append] at er3;exact ⟨rows2,_,_,_,rfl,R3,by first | exact er3 | (rw [ens];exact er3)⟩
  ·rintro σ H' ⟨rows,v2,v3,v4,rfl,R,er⟩;rw [List.length_map,List.drop_length] at er;have er2:rows=prsB ns:=by
    rw [← er];unfold prsB;simp
   symm;rw [← er2] at q;exact q _ _ R
theorem zg1 {H:Hp} {Q:VK} {E:XK} {a:Addr} {ns:List Int} (h:SqL K H a (ns.map V.int)) (hl:ns.length≤8) (q:∀ p H',zaP H p (prsB ns) H'→Q (.ref p) H'):zd2 K [.ref a] H Q E:=⟨rfl,a,ns,rfl,h,hl,q⟩
def mayB (hs:List Int) (rs:List (List Int)) (k:Int) (i:Nat):Bool:=!decide ((rs.getD i []).getD 0 0=hs.getD (k-1).toNat 0)
def zbP (hs:List Int) (rs:List (List Int)) (k:Int):List Int:=((List.range rs.length).filter (mayB hs rs k)).map fun i:Nat=>1+(i:Int)
def zcu (K:PySem.W.Frag):Sp:=fun vs H Q _=>vs.length=3∧∃ (a b:Addr) (k:Int) (hs:List Int) (rs:List (List Int)),vs=[.ref a,.ref b,.int k]∧SqL K H a (hs.map V.int)∧LL K H b rs∧1≤k∧k≤hs.length∧rs.length≤1000∧(∀ i,i < rs.length→(rs.getD i []).length=2) ∧
 ∀ p H2,H p=none→Same H H2→H2 p=some (.lst ((zbP hs rs k).map V.int))→Q (.ref p) H2
theorem zed (T:Txt K mg t):FnOk P w K mg base CX0 2 t.f_1 t.d_1 ["papers","readers","paper"] (zcu K):=by
 have G_0:=zdT (P:=P) (w:=w) (base:=base) T;refine T.F_1.ok sc_1 (fun _ _ _ _ h=>h.1) fun cdv A outer s H vs Q E hr h=>by
  refine ⟨_,(zae (zaj (za6 (zau (sc:=zab s_1) (XN:=["papers","readers","paper"]) (N:=["reader","papers","readers","paper"]) (own:=1) (js:=[0,1,2]) rfl rfl (by decide +kernel)) rfl (zb6 (by rfl) T.z_range (zaa zad (zaa (zav (op_addG) (zar (zao (K:=K) rfl) (by rfl) T.z_len (by rfl) (zaa (pv 1) pa_nil)) zad) pa_nil))) (fun _ _ _ _ _=>(zaA (i:=0) (show List.Nodup [(Str.ofString "reader"),(Str.ofString "papers"),(Str.ofString "readers"),(Str.ofString "paper")] by decide +kernel) rfl (Or.inl rfl))) (fun _ _ _ _ _=>(zfL (zaL (K:=K) rfl (zan G_0 (hr.mono (by decide)) (by rfl) T.m_0 T.F_0.kp T.b_0 .nil zaI (zaa (pv 1) (zaa (pv 2) (zaa (pv 3) (zaa (pv 0) pa_nil))))) (fun _=>rfl)))) (fun _ _ _ _ _=>(pv 0))))),?_⟩;obtain ⟨_,a,b,k,hs,rs,rfl,ha,L,k1,k2,hz,h2,q⟩:=h;obtain ⟨ps,hb,hl,hr'⟩:=id L;symm;refine ze7 ⟨by omega,by omega,by omega,by omega⟩ ?_;have en:((ps.length:Int)+1-1).toNat=rs.length:=by omega
  rw [en];refine zhA (zch _ _ _) (by omega) (mayB hs rs k) (fun i=>1+(i:Int)) (fun i H' Q' hi s q'=>?_) (fun i H' Q' hi s hc q'=>?_) fun p H2 f s e=>q p H2 f s e
  ·have ha':=s.seq ha;have L':=L.same s;symm;refine zen ha' L' k1 k2 (by omega) (by omega) h2 ?_;symm;have e:(1+(i:Int)-1).toNat=i:=by omega
   rw [e];exact q'
  ·symm;exact q'
theorem zeT {H:Hp} {a b:Addr} {k:Int} {hs:List Int} {rs:List (List Int)} {Q:VK} {E:XK} (h1:SqL K H a (hs.map V.int)) (h2:LL K H b rs) (k1:1≤k) (k2:k≤hs.length) (hz:rs.length≤1000) (h3:∀ i,i < rs.length→(rs.getD i []).length=2)
  (q:∀ p H2,H p=none→Same H H2→H2 p=some (.lst ((zbP hs rs k).map V.int))→Q (.ref p) H2):zcu K [.ref a,.ref b,.int k] H Q E:=⟨rfl,a,b,k,hs,rs,rfl,h1,h2,k1,k2,hz,h3,q⟩
def zfB (K:PySem.W.Frag):Sp:=fun vs H Q _=>vs.length=3∧False
theorem zfC (T:Txt K mg t):FnOk P w K mg base CX0 1 t.f_19 t.d_19 ["papers","readers","rows"] (zfB K):=by
 exact T.F_19.ok sc_19 (fun _ _ _ _ h=>h.1) fun _ _ _ _ _ _ _ _ _ h=>h.2.elim
def zbF (K:PySem.W.Frag):Sp:=fun vs H Q _=>vs.length=3∧∃ (a b c:Addr) (hs:List Int) (rs:List (List Int)),vs=[.ref a,.ref b,.ref c]∧SqL K H a (hs.map V.int)∧LL K H b rs∧H c=some (.lst [])∧InB hs rs∧hs≠[]∧rs.length < 2∧∀ H',Same H H'→Q .non H'
theorem zcF (T:Txt K mg t):FnOk P w K mg base CX0 3 t.f_17 t.d_17 ["papers","readers","rows"] (zbF K):=by
 have G_18:=zf9 (P:=P) (w:=w) (base:=base) T;have G_1:=zed (P:=P) (w:=w) (base:=base) T;have G_19:=zfC (P:=P) (w:=w) (base:=base) T;refine T.F_17.ok sc_17 (fun _ _ _ _ h=>h.1) fun cdv A outer s H vs Q E hr h=>by
  refine ⟨_,(zac (zaF (i:=3) sc_17.nd rfl (Or.inl rfl) (zav (op_addG) (zar (zao (K:=K) rfl) (by rfl) T.z_len (by rfl) (zaa (pv 2) pa_nil)) zad))
   (zac (zb7 PassesOwn.never rfl (zaR (K:=K) rfl (zan G_18 (hr.mono (by decide)) (by rfl) T.m_18 T.F_18.kp T.b_18 .nil zaI (zaa (zan G_1 (hr.mono (by decide)) (by rfl) T.m_1 T.F_1.kp T.b_1 .nil zaI (zaa (pv 0) (zaa (pv 1) (zaa (pv 3) pa_nil)))) pa_nil))) (zaA (i:=4) sc_17.nd rfl (Or.inl rfl))
   (zae (zaK (zaL (K:=K) rfl (zan G_19 (hr.mono (by decide)) (by rfl) T.m_19 T.F_19.kp T.b_19 .nil zaI (zaa (pv 0) (zaa (pv 1) (zaa (zav (op_addG) (pv 2) (zaB (zaa (pv 4) pa_nil))) pa_nil)))) (fun _=>rfl))
   (zae (zaj (pv 4))) pss_nil)))
   (zae (zaj zb2)))),?_⟩
  obtain ⟨_,a,b,c,hs,rs,rfl,ha,L,hc,B,h0,h2,q⟩:=h;have hl:0 < hs.length:=List.length_pos_iff.mpr h0;symm;refine zeT ha L (by simp) (by simp;omega) (by omega) B.r2 fun p1 H1 f1 s1 e1=>?_;have hlen:(zbP hs rs (((([]:List V).length:Nat):Int)+1)).length < 2:=by
   unfold zbP;rw [List.length_map];exact Nat.lt_of_le_of_lt (Nat.le_trans (List.length_filter_le _ _) (by simp)) h2
  generalize zbP hs rs (((([]:List V).length:Nat):Int)+1)=ns at *;symm;refine zg1 (SqL.of e1) (by omega) fun p2 H2 R2=>?_;have hn:prsB ns=[]:=by
   match ns,hlen with
   | [],_=>rfl
   | [x],_=>rfl
  rw [hn] at R2;obtain ⟨zs,hz,hzl⟩:=R2.lst;have hz0:zs=[]:=List.length_eq_zero_iff.mp hzl;subst hz0;refine zba (SqL.of hz) ?_;refine zeB (xs:=[]) (fun i σ H'=>H2=H'∧∃ v,σ=[some (.ref a),some (.ref b),some (.ref c),v,none]) ⟨rfl,_,rfl⟩ ?_ ?_ ?_
  ·rintro i σ H' _ ⟨rfl,_⟩;exact SqL.of hz
  ·rintro i x σ H' hx;simp at hx
  ·rintro σ H' ⟨rfl,v,rfl⟩;symm;exact q _ (s1.trans R2.same)
theorem zcY {H:Hp} {Q:VK} {E:XK} {a b c:Addr} {hs:List Int} {rs:List (List Int)} (h1:SqL K H a (hs.map V.int)) (h2:LL K H b rs) (h3:H c=some (.lst [])) (B:InB hs rs) (h0:hs≠[]) (hf:rs.length < 2) (q:∀ H',Same H H'→Q .non H'):zbF K [.ref a,.ref b,.ref c] H Q E:=⟨rfl,a,b,c,hs,rs,rfl,h1,h2,h3,B,h0,hf,q⟩
def zbZ (K:PySem.W.Frag):Sp:=fun vs H Q _=>vs.length=2∧∃ (a b:Addr) (hs:List Int) (rs:List (List Int)),vs=[.ref a,.ref b]∧SqL K H a (hs.map V.int)∧LL K H b rs∧InB hs rs∧(hs=[]∨rs.length < 2)∧(za1 hs rs none→∀ H',Same H H'→Q .non H')∧∀ rows,za1 hs rs (some rows)→∀ p H',zaP H p rows H'→Q (.ref p) H'
theorem zdp (T:Txt K mg t):FnOk P w K mg base CX0 4 t.f_16 t.d_16 ["papers","readers"] (zbZ K):=by
 have G_17:=zcF (P:=P) (w:=w) (base:=base) T;refine T.F_16.ok sc_16 (fun _ _ _ _ h=>h.1) fun cdv A outer s H vs Q E hr h=>by
  refine ⟨_,(zac (zaF (i:=2) sc_16.nd rfl (Or.inl rfl) (zaB pa_nil))
   (zac (zge PassesOwn.never (zah (op_lt) (zar (zao (K:=K) rfl) (by rfl) T.z_len (by rfl) (zaa (pv 2) pa_nil)) (zar (zao (K:=K) rfl) (by rfl) T.z_len (by rfl) (zaa (pv 0) pa_nil)) (zat _))
   (zac (zaF (i:=3) sc_16.nd rfl (Or.inl rfl) (zan G_17 (hr.mono (by decide)) (by rfl) T.m_17 T.F_17.kp T.b_17 .nil zaI (zaa (pv 0) (zaa (pv 1) (zaa (pv 2) pa_nil)))))
   (zac (zaK (zah (op_isNN) (pv 3) zb2 (zat _))
   (zae (zaj zb2)) pss_nil)
   (zae (zaz (zaT (K:=K) rfl PySem.F.plainAttrs_list PySem.F.slot_list_append PySem.F.type_list_append mt_append (pv 2) (zaa (pv 3) pa_nil)))))))
   (zae (zaj (pv 2))))),?_⟩
  obtain ⟨_,a,b,hs,rs,rfl,ha,L,B,PL,q0,q1⟩:=h;have B1:=B.lp;symm;refine zam (by decide) fun p1 H1 f1 s1 e1=>?_;have ha':=s1.seq ha;symm;refine ⟨fun n σ H'=>σ=[some (.ref a),some (.ref b),some (.ref p1),none]∧H1=H',⟨0,rfl,rfl⟩,?_⟩;rintro n σ H' ⟨rfl,rfl⟩;symm;refine zbm (fun hlt=>?_) (fun hge=>?_)
  ·have h0:hs≠[]:=fun z=>by rw [z] at hlt;simp at hlt
   have h2:rs.length < 2:=PL.resolve_left h0;refine ⟨fun σ H''=>False,fun _ _ z=>z.elim,?_⟩;symm;refine zcY ha' (L.same s1) e1 B h0 h2 fun H2 s2=>?_;symm;refine iteT ?_;symm;exact q0 (zgo h0 h2) _ (s1.trans s2)
  ·have h0:hs=[]:=by
    cases hs with
    | nil=>rfl
    | cons x xs=>exact absurd (by simp) hge
   subst h0;symm;exact q1 [] (zfl B) _ _ (zaP.start f1 s1 e1)
theorem zd3 {H:Hp} {Q:VK} {E:XK} {a b:Addr} {hs:List Int} {rs:List (List Int)} (h1:SqL K H a (hs.map V.int)) (h2:LL K H b rs) (B:InB hs rs) (PL:hs=[]∨rs.length < 2) (q0:za1 hs rs none→∀ H',Same H H'→Q .non H') (q1:∀ rows,za1 hs rs (some rows)→∀ p H',zaP H p rows H'→Q (.ref p) H'):zbZ K [.ref a,.ref b] H Q E:=⟨rfl,a,b,hs,rs,rfl,h1,h2,B,PL,q0,q1⟩
def zdg (K:PySem.W.Frag) (C:Addr) (xa:XAd):Sp:=fun vs H Q E=>vs.length=1∧∃ (x:Addr) (F:Addr→Prop) (st:ExS),vs=[.ref x]∧ExAt C H x F st∧InB st.hs st.rs∧zdH st∧(st.dl.isSome=true→E (.ref xa.OutOfTime) none H)∧(st.dl=none→za1 st.hs st.rs none→∀ H',Same H H'→Q (.bl false) H')∧(st.dl=none→∀ rows,za1 st.hs st.rs (some rows)→∀ H' F',ExFr H H' F F'→ExAt C H' x F' { st with dl:=some (rows,[]) }→Q (.bl true) H')
theorem zfD (T:Txt K mg t):FnOk P w K mg base (CX1 P w) 5 t.f_34 t.d_34 ["self"] (zdg K t.C_Exam t.xa):=by
 have G_45:=zaE (P:=P) (w:=w) (base:=base) T;have G_16:=zdp (P:=P) (w:=w) (base:=base) T;refine T.F_34.okX sc_34 (fun _ _ _ _ h=>h.1) fun cdv A outer s H vs Q E hr h=>by
  refine ⟨_,(zac (zaz (zbg (pv 0) T.cl_Exam T.me_45 G_45 (hr.mono (by decide)) T.b_45 .nil passX))
   (zac (zaF (i:=1) sc_34.nd rfl (Or.inl rfl) (zan G_16 (hr.mono (by decide)) (by rfl) T.m_16 T.F_16.kp T.b_16 .nil zaI (zaa (zaN (K:=K) rfl (pv 0)) (zaa (zaN (K:=K) rfl (pv 0)) pa_nil))))
   (zac (zaK (zah (op_isNN) (pv 1) zb2 (zat _))
   (zae (zaj zeV)) pss_nil)
   (zac (zbK (K:=K) rfl (pv 0) zeV)
   (zac (zbK (K:=K) rfl (pv 0) (pv 1))
   (zac (zbK (K:=K) rfl (pv 0) (za6 (zau (sc:=zab s_34) (XN:=["self","rows"]) (N:=["row"]) (own:=1) (js:=[]) rfl rfl (by decide +kernel)) rfl (zaR (K:=K) rfl (pv 1)) (fun _ _ _ _ _=>(zaA (i:=0) (show List.Nodup [(Str.ofString "row")] by decide +kernel) rfl (Or.inl rfl))) (fun _ _ _ _ _=>za5) (fun _ _ _ _ _=>pe_dnewK)))
   (zae (zaj zeV)))))))),?_⟩
  obtain ⟨_,x,F,st,rfl,E0,BB,PL,qe,q0,q1⟩:=h;have B1:=BB.lp;have B2:=BB.lr;have E0':=E0;walk_at "hd";have L:LL K H e.b st.rs:=⟨e.ps,SqL.of hhb,I.lp,I.rp⟩
  symm;refine zaV E0' (fun hd=>?_) qe;have q0:=q0 hd;have q1:=q1 hd;symm;refine zd3 (SqL.of hha) L BB PL (fun F0 H1 s1=>?_) (fun rows F1 p H1 R1=>?_)
  ·symm;rw [decide_eq_true (rfl:V.non=V.non)];refine iteT ?_;symm;exact q0 F0 H1 s1
  ·have hrt:zcc st.hs st.rs rows=true:=F1.1;have hrl:=(zdE.mp hrt).1;obtain ⟨psr,hpr,hlr,_⟩:=R1.rows;symm;rw [decide_eq_false (show ¬V.ref p=V.non by intro z;cases z)];refine iteF ?_;have x1:=R1.same _ _ hob;have xp:p≠e.x:=(zaf hob R1.new).symm;symm;refine zbb x1 hcl nD (show 6 < 1000 by decide) fun H2 b2 x2=>?_;rw [exFs_pd] at x2;symm;refine zbb x2 hcl nC (show 6 < 1000 by decide) fun H3 b3 x3=>?_;rw [exFs_pc] at x3;have hp3:H3 p=some (.lst (psr.map V.ref)):=by rw [b3 _ xp,b2 _ xp];exact hpr
   symm;refine zba (SqL.of hp3) ?_;refine zds (zgM (zcl.one (zaZ (SqL.of hp3))) (by rw [List.length_map];omega) rfl fun d ds H4 f4 s4 e4 l4 nd4 hd4=>?_);rw [List.length_map,hlr] at l4;rw [List.length_map,hlr] at hd4;have x4:=s4 _ _ x3;symm;refine zbb x4 hcl nE (show 6 < 1000 by decide) fun H5 b5 x5=>?_;rw [exFs_pe] at x5;have xd:d≠e.x:=(zaf x3 f4).symm;have kk:∀ b o,H1 b=some o→b≠e.x→H5 b=some o:=fun b o eb nb=>by
    rw [b5 _ nb];refine s4 _ _ ?_;rw [b3 _ nb,b2 _ nb];exact eb
   have n1:∀ b,H3 b=none→H1 b=none:=fun b eb=>by
    cases h1:H1 b with
    | none=>rfl
    | some o =>
      by_cases nb:b=e.x
      ·rw [nb,x3] at eb;cases eb
      ·rw [b3 _ nb,b2 _ nb,h1] at eb;cases eb
   have nx4:∀ i,i < rows.length→ds.getD i 0≠e.x:=fun i hi z=>by have:=(hd4 i hi).2.1;rw [z,x3] at this;cases this
   obtain ⟨e',hx',I',fp'⟩:=I.deal (H5:=H5) (p:=p) (q:=d) (rows:=rows) (ds:=ds) hrt R1 kk x5 (by rw [b5 _ xd];exact e4) (n1 _ f4) l4 nd4 (fun i hi=>⟨by rw [b5 _ (nx4 i hi)];exact (hd4 i hi).1,n1 _ (hd4 i hi).2.1,(hd4 i hi).2.2⟩);symm;refine q1 rows F1 H5 _ ⟨fun b o eb nb=>?_,fun b z=>?_⟩ (hx'▸I'.at)
   ·exact kk b o (R1.same _ _ eb) (fun z=>nb ((hF _).mpr (by rw [z];exact own_x)))
   ·exact (fp' b z).imp (fun z=>(hF b).mpr z) id
theorem zga {K:PySem.W.Frag} {xa:XAd} {C x:Addr} {H:Hp} {F:Addr→Prop} {st:ExS} {Q:VK} {E:XK} (h:ExAt C H x F st) (B:InB st.hs st.rs) (PL:zdH st) (qe:st.dl.isSome=true→E (.ref xa.OutOfTime) none H) (q0:st.dl=none→za1 st.hs st.rs none→∀ H',Same H H'→Q (.bl false) H') (q1:st.dl=none→∀ rows,za1 st.hs st.rs (some rows)→∀ H' F',ExFr H H' F F'→ExAt C H' x F' { st with dl:=some (rows,[]) }→Q (.bl true) H'):zdg K C xa [.ref x] H Q E:=⟨rfl,x,F,st,rfl,h,B,PL,qe,q0,q1⟩
def zij (K:PySem.W.Frag) (C:Addr) (xa:XAd):Sp:=fun vs H Q E=>vs.length=3∧∃ (x o:Addr) (F:Addr→Prop) (st:ExS) (a:Act),vs=[.ref x,.str a.head,.ref o]∧(∀ q,a≠.ask q)∧H o=some (.lst (a.nums.map V.int))∧ExAt C H x F st∧D31 st∧a.ok st∧(∀ f,a.ref st=some f→E (.ref (xa.at f)) none H)∧(a.ref st=none→∀ H' F',ExFr H H' F F'→ExAt C H' x F' (a.next st)→Q (.str (a.ans st)) H')
theorem zkh (T:Txt K mg t):FnOk P w K mg base (CX1 P w) 6 t.f_56 t.d_56 ["exam","deed","numbers"] (zij K t.C_Exam t.xa):=by
 have G_31:=zcC (P:=P) (w:=w) (base:=base) T;have G_32:=zcm (P:=P) (w:=w) (base:=base) T;have G_33:=zdo (P:=P) (w:=w) (base:=base) T;have G_35:=zeS (P:=P) (w:=w) (base:=base) T;have G_34:=zfD (P:=P) (w:=w) (base:=base) T;refine T.F_56.okX sc_56 (fun _ _ _ _ h=>h.1) fun cdv A outer s H vs Q E hr h=>by
  refine ⟨_,(zac (zaK (zah (zaM (K:=K) rfl hr.units0) (pv 1) zax (zat _))
   (zae (zaj (zaG (zaS (K:=K) rfl) (by rfl) T.z_str (by rfl) (zaa (zb9 (pv 0) T.cl_Exam T.me_31 G_31 (hr.mono (by decide)) T.b_31 .nil passX (zaa (zaD (zag (K:=K) rfl) (pv 2) zad (fun _ _=>rfl)) pa_nil)) pa_nil)))) pss_nil)
   (zac (zaK (zah (zaM (K:=K) rfl hr.units0) (pv 1) zax (zat _))
   (zae (zaj (zaG (zaS (K:=K) rfl) (by rfl) T.z_str (by rfl) (zaa (zb9 (pv 0) T.cl_Exam T.me_32 G_32 (hr.mono (by decide)) T.b_32 .nil passX (zaa (zaD (zag (K:=K) rfl) (pv 2) zad (fun _ _=>rfl)) (zaa (zaD (zag (K:=K) rfl) (pv 2) zad (fun _ _=>rfl)) pa_nil))) pa_nil)))) pss_nil)
   (zac (zaK (zah (zaM (K:=K) rfl hr.units0) (pv 1) zax (zat _))
   (zae (zaj (zaG (zaS (K:=K) rfl) (by rfl) T.z_str (by rfl) (zaa (zb9 (pv 0) T.cl_Exam T.me_33 G_33 (hr.mono (by decide)) T.b_33 .nil passX (zaa (zaD (zag (K:=K) rfl) (pv 2) zad (fun _ _=>rfl)) pa_nil)) pa_nil)))) pss_nil)
   (zac (zaK (zah (zaM (K:=K) rfl hr.units0) (pv 1) zax (zat _))
   (zae (zaj (zaG (zaS (K:=K) rfl) (by rfl) T.z_str (by rfl) (zaa (zb9 (pv 0) T.cl_Exam T.me_35 G_35 (hr.mono (by decide)) T.b_35 .nil passX (zaa (zaD (zag (K:=K) rfl) (pv 2) zad (fun _ _=>rfl)) (zaa (zaD (zag (K:=K) rfl) (pv 2) zad (fun _ _=>rfl)) (zaa (zaD (zag (K:=K) rfl) (pv 2) zad (fun _ _=>rfl)) pa_nil)))) pa_nil)))) pss_nil)
   (zae (zaj (ziq (zaL (K:=K) rfl (zbg (pv 0) T.cl_Exam T.me_34 G_34 (hr.mono (by decide)) T.b_34 .nil passX) (fun _=>rfl)) zax zax))))))),?_⟩
  obtain ⟨_,x,o,F,st,a,rfl,hq,eo,E0,DD,hok,qe,q⟩:=h;have BB:=DD.inb;have B1:=BB.lp;have B2:=BB.lr;have hbd:=Act.bnd hok;obtain ⟨dx,fs,hob,hlk⟩:=E0.ob
  cases a with
  | ask qn=>exact absurd rfl (hq qn)
  | bring d =>
    cases d with
    | paper h =>
      have eo:H o=some (.lst [.int h]):=eo;rw [show (Act.bring (Dd.paper h)).head=Str.ofString "paper" from rfl];walk_at "rds";refine za2 hob (hlk _ (by decide +kernel)) ?_;symm;refine zcU E0 BB (fun f hf=>qe f hf) (fun hn H' F' fr E'=>?_);obtain ⟨z1,z2⟩:=zbN (d:=.paper h) hn;symm;refine zbz (by omega) ?_;have:=q hn H' F' fr (by rw [z2];exact E');rw [z1] at this;exact this
    | reader h l =>
      have eo:H o=some (.lst [.int h,.int l]):=eo;rw [show (Act.bring (Dd.reader h l)).head=Str.ofString "reader" from rfl];walk_at "rds";refine za2 hob (hlk _ (by decide +kernel)) ?_;symm;refine zcD E0 BB (fun f hf=>qe f hf) (fun hn H' F' fr E'=>?_);obtain ⟨z1,z2⟩:=zbN (d:=.reader h l) hn;symm;refine zbz (by omega) ?_;have:=q hn H' F' fr (by rw [z2];exact E');rw [z1] at this;exact this
    | step s =>
      have eo:H o=some (.lst [.int s]):=eo;rw [show (Act.bring (Dd.step s)).head=Str.ofString "step" from rfl];walk_at "rds";refine za2 hob (hlk _ (by decide +kernel)) ?_;symm;refine zd1 E0 BB (fun f hf=>qe f hf) (fun hn H' F' fr E'=>?_);obtain ⟨z1,z2⟩:=zbN (d:=.step s) hn;symm;refine zbz (hbd s (by simp [Act.nums,Dd.nums])) ?_;have:=q hn H' F' fr (by rw [z2];exact E');rw [z1] at this;exact this
  | enter k r p =>
    have eo:H o=some (.lst [.int k,.int r,.int p]):=eo;rw [show (Act.enter k r p).head=Str.ofString "enter" from rfl];walk_at "rds";refine za2 hob (hlk _ (by decide +kernel)) ?_;symm;exact zfA E0 DD (qe _ rfl)
  | deal =>
    have hok:zdH st:=hok;walk_at "rds";refine za2 hob (hlk _ (by decide +kernel)) ?_;symm;refine zga E0 BB hok (fun hd=>qe .time (if_pos hd)) (fun hd F0 H' s'=>?_) (fun hd rows F1 H' F' fr E'=>?_)
    ·obtain ⟨z1,z2⟩:=zeK hd;have h0:=zkf BB F0;rw [if_neg h0] at z1 z2;walk_at "rds";have:=q (if_neg (by rw [hd];decide)) H' F (ExFr.of_same s') (by rw [z2];exact E0.same s');rw [z1] at this;exact this
    ·obtain ⟨z1,z2⟩:=zeK hd;obtain ⟨h0,rfl⟩:=zi0 hok F1;rw [if_pos h0] at z1 z2;walk_at "rds";have:=q (if_neg (by rw [hd];decide)) H' F' fr (by rw [z2];exact E');rw [z1] at this;exact this
theorem zlu {xa:XAd} {C x o:Addr} {H:Hp} {F:Addr→Prop} {st:ExS} {a:Act} {Q:VK} {E:XK} (hq:∀ q,a≠.ask q) (eo:H o=some (.lst (a.nums.map V.int))) (h:ExAt C H x F st) (D:D31 st) (hok:a.ok st) (qe:∀ f,a.ref st=some f→E (.ref (xa.at f)) none H) (q:a.ref st=none→∀ H' F',ExFr H H' F F'→ExAt C H' x F' (a.next st)→Q (.str (a.ans st)) H'):zij K C xa [.ref x,.str a.head,.ref o] H Q E:=⟨rfl,x,o,F,st,a,rfl,hq,eo,h,D,hok,qe,q⟩
def zbJ (K:PySem.W.Frag) (C:Addr):Sp:=fun vs H Q _=>vs.length=3∧∃ (x o:Addr) (F:Addr→Prop) (st:ExS) (a:Act),vs=[.ref x,.str a.head,.ref o]∧(∀ q,a≠.ask q)∧H o=some (.lst (a.nums.map V.int))∧ExAt C H x F st∧D31 st∧a.ok st∧∀ H' F',ExFr H H' F F'→ExAt C H' x F' (a.next st)→Q (.str (a.ans st)) H'
theorem zcZ (T:Txt K mg t):FnOk P w K mg base CX0 7 t.f_55 t.d_55 ["exam","deed","numbers"] (zbJ K t.C_Exam):=by
 have G_56:=zkh (P:=P) (w:=w) (base:=base) T;refine T.F_55.ok sc_55 (fun _ _ _ _ h=>h.1) fun cdv A outer s H vs Q E hr h=>by
  refine ⟨_,(zae (zlh ⟨rfl,rfl⟩ (fun xe pn=>(zae (zaj (ziP G_56 (hr.mono (by decide)) (by rfl) T.m_56 T.F_56.kp T.b_56 (zaa (pv 0) (zaa (pv 1) (zaa (pv 2) pa_nil)))))))
   (zdF (fun _ _ z=>z) (by rfl) T.mx_OutOfTime (fun _=>(zae (zaj zax)))
   (zdF (fun _ _ z=>z) (by rfl) T.mx_UnknownNumber (fun _=>(zae (zaj zax)))
   (zdF (fun _ _ z=>z) (by rfl) T.mx_NotDue (fun _=>(zae (zaj zax)))
   (zdF (fun _ _ z=>z) (by rfl) T.mx_OutOfBounds (fun _=>(zae (zaj zax)))
   (zdF (fun _ _ z=>z) (by rfl) T.mx_Full (fun _=>(zae (zaj zax)))
   ph_nil))))))),?_⟩
  obtain ⟨_,x,o,F,st,a,rfl,hq,eo,E0,DD,hok,q⟩:=h;symm;refine zlT fun xe pn hxe=>?_;symm;refine zlu hq eo E0 DD hok (fun f hf=>hxe _ _ _ ?_) (fun hn H' F' fr E'=>?_)
  ·obtain ⟨z1,z2⟩:=Act.ans_ref hf;have q:=q H F (ExFr.of_same (Same.refl _)) (by rw [z2];exact E0);rw [z1] at q
   cases f
   ·refine ziQ T.x_OutOfTime_OutOfTime ?_;symm;exact q
   ·refine zfg T.x_UnknownNumber_OutOfTime (ziQ T.x_UnknownNumber_UnknownNumber ?_);symm;exact q
   ·exact absurd hf zlq
   ·refine zfg T.x_OutOfBounds_OutOfTime (zfg T.x_OutOfBounds_UnknownNumber (zfg T.x_OutOfBounds_NotDue (ziQ T.x_OutOfBounds_OutOfBounds ?_)));symm;exact q
   ·refine zfg T.x_Full_OutOfTime (zfg T.x_Full_UnknownNumber (zfg T.x_Full_NotDue (zfg T.x_Full_OutOfBounds (ziQ T.x_Full_Full ?_))));symm;exact q
  ·symm;exact q H' F' fr E'
theorem zc7 {C x o:Addr} {H:Hp} {F:Addr→Prop} {st:ExS} {a:Act} {Q:VK} {E:XK} (hq:∀ q,a≠.ask q) (eo:H o=some (.lst (a.nums.map V.int))) (h:ExAt C H x F st) (D:D31 st) (hok:a.ok st) (q:∀ H' F',ExFr H H' F F'→ExAt C H' x F' (a.next st)→Q (.str (a.ans st)) H'):zbJ K C [.ref x,.str a.head,.ref o] H Q E:=⟨rfl,x,o,F,st,a,rfl,hq,eo,h,D,hok,q⟩
def zdh (K:PySem.W.Frag) (C:Addr):Sp:=fun vs H Q _=>vs.length=2∧∃ (x:Addr) (r:Str) (F:Addr→Prop) (st:ExS) (a:Act),vs=[.ref x,.str r]∧RowT r a.words∧ExAt C H x F st∧D31 st∧a.ok st∧∀ H' F',ExFr H H' F F'→ExAt C H' x F' (a.next st)→Q (.str (a.ans st)) H'
theorem zfE (T:Txt K mg t):FnOk P w K mg base CX0 8 t.f_54 t.d_54 ["exam","row"] (zdh K t.C_Exam):=by
 have G_57:=zg0 (P:=P) (w:=w) (base:=base) T;have G_55:=zcZ (P:=P) (w:=w) (base:=base) T;refine T.F_54.ok sc_54 (fun _ _ _ _ h=>h.1) fun cdv A outer s H vs Q E hr h=>by
  refine ⟨_,(zac (zaF (i:=2) sc_54.nd rfl (Or.inl rfl) (zaT (K:=K) rfl PySem.F.plainAttrs_str PySem.F.slot_str_split PySem.F.type_str_split mt_split (pv 1) (zaa zax pa_nil)))
   (zac (zaK (zah (zhT (K:=K) rfl (zhs hr)) (zaD (zag (K:=K) rfl) (pv 2) zad (fun _ _=>rfl)) (zb3 (v:=.ref t.q_QUESTIONS) (by rfl) T.v_QUESTIONS rfl) (by with_unfolding_all rfl))
   (zae (zaj (zan G_57 (hr.mono (by decide)) (by rfl) T.m_57 T.F_57.kp T.b_57 .nil zaI (zaa (pv 0) (zaa (zaD (zag (K:=K) rfl) (pv 2) zad (fun _ _=>rfl)) pa_nil))))) pss_nil)
   (zac (zc2 (i:=3) sc_54.nd rfl (Or.inl rfl) (by rfl) (zau (sc:=zab s_54) (XN:=["exam","row","words","numbers"]) (N:=["word"]) (own:=1) (js:=[]) rfl rfl (by decide +kernel)) rfl (zaR (K:=K) rfl (zcf (zcg (K:=K) rfl) (pv 2) (zc1 zad) po_none)) (fun _ _ _ _ _=>(zaA (i:=0) (show List.Nodup [(Str.ofString "word")] by decide +kernel) rfl (Or.inl rfl))) (fun _ _ _ _ _=>za5) (fun _ _ _ _ _=>(zaG (call_int2K (K:=K)) (by rfl) T.z_int (by rfl) (zaa (pv 0) pa_nil))))
   (zae (zaj (zan G_55 (hr.mono (by decide)) (by rfl) T.m_55 T.F_55.kp T.b_55 .nil zaI (zaa (pv 0) (zaa (zaD (zag (K:=K) rfl) (pv 2) zad (fun _ _=>rfl)) (zaa (pv 3) pa_nil))))))))),?_⟩
  obtain ⟨_,x,r,F,st,a,rfl,hr',E0,DD,hok,q⟩:=h;have hl:=hr'.2.2.2.2;symm;refine zgT (by decide +kernel) (by rw [sizeLine_eq];omega) fun l H1 f1 s1 e1=>?_;rw [hr'.split,Act.words_eq] at e1;have e1:H1 l=some (.lst (.str a.head::(a.nums.map tS).map V.str)):=e1;symm;refine zdj (SqL.of e1) zh8 ?_;symm;refine zjp (T.sq_QUESTIONS _) rfl (by decide +kernel) ?_;symm;have deeds:(∀ q,a≠.ask q)→_:=fun hq=>zgq hq
  by_cases hq:∃ qn,a=.ask qn
  ·obtain ⟨qn,rfl⟩:=hq;rw [zi1];refine iteT ?_;symm;exact zii (E0.same s1) DD hok fun H2 s2=>q H2 F (ExFr.of_same (s1.trans s2)) ((E0.same s1).same s2)
  ·have hq:∀ qn,a≠.ask qn:=fun qn z=>hq ⟨qn,z⟩;rw [zgq hq];refine iteF ?_;symm;refine zbx (SqL.of e1) fun l2 H2 f2 s2 e2=>?_;have e2:H2 l2=some (.lst ((a.nums.map tS).map V.str)):=by rw [e2,zh9]
   have hbd:=Act.bnd hok;refine zba (SqL.of e2) ?_;refine zhz (zaZ (SqL.of e2)) (by rw [List.length_map,List.length_map];exact zi2 a) (fun i=>a.nums.getD i 0) (fun i H' Q' hi s q'=>?_) fun p3 H3 f3 s3 e3=>?_
   ·rw [List.length_map,List.length_map] at hi;have ex:(((a.nums.map tS).map V.str).getD i .non)=.str (tS (a.nums.getD i 0)):=by
     rw [List.map_map,List.getD_eq_getElem?_getD,List.getElem?_map,List.getElem?_eq_getElem hi,List.getD_eq_getElem?_getD,List.getElem?_eq_getElem hi];rfl
    rw [ex];show (_:TE) (some (.str _)::_) _ _;symm;exact zln (hbd _ (getD_mem hi)) q'
   rw [List.length_map,List.length_map,za4] at e3;have s13:=(s1.trans s2).trans s3;symm;refine zdj (SqL.of (s3 _ _ (s2 _ _ e1))) zh8 ?_;symm;exact zc7 hq e3 (E0.same s13) DD hok fun H' F' fr E'=>q H' F' ((ExFr.of_same s13).trans fr) E'
theorem zgb {C x:Addr} {r:Str} {H:Hp} {F:Addr→Prop} {st:ExS} {a:Act} {Q:VK} {E:XK} (hr:RowT r a.words) (h:ExAt C H x F st) (D:D31 st) (hok:a.ok st) (q:∀ H' F',ExFr H H' F F'→ExAt C H' x F' (a.next st)→Q (.str (a.ans st)) H'):zdh K C [.ref x,.str r] H Q E:=⟨rfl,x,r,F,st,a,rfl,hr,h,D,hok,q⟩
def zeq (K:PySem.W.Frag) (C:Addr):Sp:=fun vs H Q _=>vs.length=1∧∃ (l:Addr) (rows:List (Str×Str)) (as:List Act),vs=[.ref l]∧H l=some (.lst (rows.map fun r=>V.str r.1))∧rows.length≤1000∧RunL rows as∧∀ p H',Same H H'→H' p=some (.lst (rows.map fun r=>V.str r.2))→Q (.ref p) H'
theorem zg2 (T:Txt K mg t):FnOk P w K mg base CX0 9 t.f_53 t.d_53 ["rows"] (zeq K t.C_Exam):=by
 have G_30:=zdk (P:=P) (w:=w) (base:=base) T;have G_54:=zfE (P:=P) (w:=w) (base:=base) T;refine T.F_53.ok sc_53 (fun _ _ _ _ h=>h.1) fun cdv A outer s H vs Q E hr h=>by
  refine ⟨_,(zac (zaF (i:=1) sc_53.nd rfl (Or.inr rfl) (ziy T.mk_Exam G_30 (hr.mono (by decide)) (by rfl) T.mg_Exam T.b_30 .nil zaI))
   (zae (zaj (za6 (zau (sc:=zab s_53) (XN:=["rows","exam"]) (N:=["row","exam"]) (own:=1) (js:=[1]) rfl rfl (by decide +kernel)) rfl (zaR (K:=K) rfl (pv 0)) (fun _ _ _ _ _=>(zaA (i:=0) (show List.Nodup [(Str.ofString "row"),(Str.ofString "exam")] by decide +kernel) rfl (Or.inl rfl))) (fun _ _ _ _ _=>za5) (fun _ _ _ _ _=>(zan G_54 (hr.mono (by decide)) (by rfl) T.m_54 T.F_54.kp T.b_54 .nil zaI (zaa (pv 1) (zaa (pv 0) pa_nil)))))))),?_⟩
  obtain ⟨_,l,rows,as,rfl,el,hl,R,q⟩:=h;symm;refine zhO fun x dx H1 fx fdx ne s1 ex=>?_;refine zfZ ex fun H2 F k2 fF E2=>⟨rfl,?_⟩
  have S2:Same H H2:=fun c o e=>k2 c o (s1 c o e) (fun z=>by rw [z,fx] at e;cases e) (fun z=>by rw [z,fdx] at e;cases e);have nF:∀ c o,H c=some o→¬F c:=fun c o e z=>by
   rcases fF c z with z | z | z
   ·rw [z,fx] at e;cases e
   ·rw [z,fdx] at e;cases e
   ·rw [s1 c o e] at z;cases z
  have el2:=S2 _ _ el;obtain ⟨Hr,elr,hrl⟩:∃ Hr:Hp,Hr l=some (.lst (rows.map fun r=>V.str r.1))∧∀ b o,Hr b=some o→b=l:=⟨fun b=>if b=l then H2 l else none,by show (if l=l then H2 l else none)=_;rw [if_pos rfl];exact el2,fun b o e=>Classical.byContradiction fun z=>by have e:(if b=l then H2 l else none)=some o:=e;rw [if_neg z] at e;cases e⟩
  symm;refine zba (SqL.of el2) ?_;refine zds (ziX (zcl.one (zaZ (SqL.of elr))) (show (rows.map fun r=>V.str r.1).length≤1000 by rw [List.length_map];exact hl) (fun i p ys J=>∃ F':Addr→Prop,Kp H (fun _=>False) J F'∧ExAt t.C_Exam J x F' (stA as i)∧ys=(rows.take i).map (fun r=>V.str r.2)∧¬F' p∧H p=none) ?_ ?_ ?_ ?_ ?_)
  ·intro p J hp s hpp;exact ⟨F,fun c u e _=>⟨s _ _ (S2 _ _ e),nF c u e⟩,E2.same s,rfl,E2.new hp,S2.free hp⟩
  ·rintro i p ys J ⟨F',K1,_⟩ b o e;have hb:=hrl b o e;subst hb;rw [elr] at e
   cases e
   exact (K1 _ _ el id).1
  ·rintro i p ys J J2 ⟨F',K1,E1,hys,nFp,hpn⟩ s;exact ⟨F',K1.same s,E1.same s,hys,nFp,hpn⟩
  ·rintro p ys i J Q' hi hp hlen ⟨F',K1,E1,hys,nFp,hpn⟩ cont;rw [List.length_map] at hi;have ex:(rows.map fun r=>V.str r.1).getD i .non=V.str (rows.getD i ("","")).1:=zfo (f:=fun r=>r.1) hi;rw [ex];show (_:TE) (some (.str (rows.getD i ("","")).1)::some (.ref x)::_) _ _;symm;refine zgb (R.row i hi) E1 (D31.at as i) (R.ok i hi) fun J2 F2 fr E2'=>?_;have nF2p:¬F2 p:=fun z=>(fr.fp p z).elim nFp fun y=>by rw [hp] at y;cases y
   refine cont _ J2 (fr.kp _ _ hp nFp) fun J3 b3 e3=>⟨F2,fun c u e _=>⟨?_,((K1.fr fr) c u e id).2⟩,?_,?_,nF2p,hpn⟩
   ·rw [b3 _ (fun z=>by rw [z,hpn] at e;cases e)];exact ((K1.fr fr) c u e id).1
   ·rw [zgp (by rw [R.len];exact hi)];exact E2'.keep fun c o hc e=>by rw [b3 c (fun z=>nF2p (z▸hc))];exact e
   ·rw [zia hi,hys,R.ans i hi]
  ·rintro p vs J2 hp hlen ⟨F',K1,E1,hys,nFp,hpn⟩;rw [List.length_map,List.take_length] at hys;subst hys;exact q p J2 (fun c u e=>(K1 c u e id).1) hp
theorem zik {C l:Addr} {H:Hp} {rows:List (Str×Str)} {as:List Act} {Q:VK} {E:XK} (el:H l=some (.lst (rows.map fun r=>V.str r.1))) (hl:rows.length≤1000) (R:RunL rows as) (q:∀ p H',Same H H'→H' p=some (.lst (rows.map fun r=>V.str r.2))→Q (.ref p) H'):zeq K C [.ref l] H Q E:=⟨rfl,l,rows,as,rfl,el,hl,R,q⟩
end
end Prf
namespace Prf
open PySem PySem.Spec PyProof.Rows L2
section
variable {P:Program} {w:World} {K:PySem.W.Frag} {mg:Str→Option Value} {base:Heap} {t:Adr}
local macro_rules | `(tactic| walk_at "rd1")=>`(tactic| ((with_reducible refine' zgr ?h1 ?h2 ?_);(case h1=>walk_at "hp");(case h2=>omega)))
local macro_rules | `(tactic| walk_at "rd1")=>`(tactic| (with_reducible refine zjn ?_))
local macro_rules | `(tactic| walk_at "rd1")=>`(tactic| (with_reducible refine zgm ?_))
local macro_rules | `(tactic| walk_at "rd1")=>`(tactic| (with_reducible refine r_fs ?_))
local macro_rules | `(tactic| walk_at "rd1")=>`(tactic| (with_reducible refine r_je ?_))
local macro_rules | `(tactic| walk_at "sz")=>`(tactic| (simp only [zaU,len_emp,sizeLine_eq,ll_paper,ll_reader,ll_step,ll_enter,ll_open,ll_sp];omega))
local macro_rules | `(tactic| walk_at "rd1")=>`(tactic| ((with_reducible refine' r_jl ?h1 ?_);(case h1=>walk_at "sz")))
local macro_rules | `(tactic| walk_at "rd1")=>`(tactic| ((with_reducible refine' r_jn ?h1 ?_);(case h1=>walk_at "sz")))
local macro_rules | `(tactic| walk_at "rd1")=>`(tactic| ((with_reducible refine' zh3 ?h1 ?h2 ?_);(case h1=>exact zh1 (by assumption));(case h2=>walk_at "sz")))
local macro_rules | `(tactic| walk_at "rds")=>`(tactic| repeat (first | walk_at "rd1" | (with_reducible refine iteF ?_) | (with_reducible refine iteT ?_) | (refine zbm (fun h=>absurd h (by decide +kernel)) (fun _=>?_)) | (refine zbm (fun _=>?_) (fun h=>absurd (by decide +kernel) h))))
local macro_rules | `(tactic| walk_at "rd1")=>`(tactic| (with_reducible refine r_eq3I ?_))
local macro_rules | `(tactic| walk_at "rd1")=>`(tactic| (with_reducible refine r_eq3B ?_))
local macro_rules | `(tactic| walk_at "rd1")=>`(tactic| (with_reducible refine r_eq3S ?_))
local macro_rules | `(tactic| walk_at "rd1")=>`(tactic| (with_reducible refine r_ne3I ?_))
local macro_rules | `(tactic| walk_at "rd1")=>`(tactic| (with_reducible refine r_ne3B ?_))
local macro_rules | `(tactic| walk_at "rd1")=>`(tactic| (with_reducible refine zjj ?_))
local macro_rules | `(tactic| walk_at "rd1")=>`(tactic| (with_reducible refine zhW ?_))
local macro_rules | `(tactic| walk_at "rd1")=>`(tactic| (with_reducible refine r_methX ?_))
local macro_rules | `(tactic| walk_at "rd1")=>`(tactic| (with_reducible refine zhV ?_))
local macro_rules | `(tactic| walk_at "rd1")=>`(tactic| (with_reducible refine zgm ?_))
theorem Acc.start {H H1 H2 H3:Hp} {a b m:Addr} (f1:H a=none) (s1:Same H H1) (e1:H1 a=some (.lst [])) (f2:H1 b=none) (s2:Same H1 H2) (e2:H2 b=some (.lst [])) (f3:H2 m=none) (s3:Same H2 H3) (e3:H3 m=some (.lst [])):Acc H H3 a b m [] [] [] [] :=
 ⟨(s1.trans s2).trans s3,f1,s1.free f2,(s1.trans s2).free f3,⟨s3 _ _ (s2 _ _ e1),s3 _ _ e2,zaf e1 f2,rfl,fun i hi=>absurd hi (Nat.not_lt_zero i),fun p hp=>absurd hp (by simp)⟩,e3,rfl,fun i hi=>absurd hi (by simp),fun p hp=>absurd hp (by simp),fun p hp=>absurd hp (by simp),(zaf (s2 _ _ e1) f3).symm,(zaf e2 f3).symm,RunL.nil⟩
theorem zil {st:ExS} {h:Int} (hd:st.dl=none) (h1:1≤h∧h≤6) (hl:st.hs.length < 10):(Dd.paper h).why st=none:=zfh hd ⟨h1.1,h1.2,hl⟩
theorem zg3 {st:ExS} {h l:Int} (hd:st.dl=none) (h1:0≤h∧h≤6) (l1:0≤l∧l≤30) (hl:st.rs.length < 8):(Dd.reader h l).why st=none:=zfi hd ⟨h1.1,h1.2,l1.1,l1.2,hl⟩
theorem zdv {st:ExS} {d:Dd}:((Act.bring d).next st).dl=st.dl:=by
 show (if d.why st=none then d.done st else st).dl=st.dl;split
 ·exact zh4 st d
 ·rfl
theorem zi8 {hs:List Int} {h:Int} {i:Nat} (e:hs.length=i):atI ((hs++[h]).map V.int) (0+(i:Int))=some (.int h):=by
 have:=zex (ns:=hs++[h]) (show (0:Int)≤0+(i:Int) by omega) (by rw [List.length_append,List.length_singleton];omega);rw [this,show ((0:Int)+(i:Int)).toNat=hs.length by omega,zas]
theorem zfF {ps:List Addr} {r:Addr} {i:Nat} (e:ps.length=i):atI ((ps++[r]).map V.ref) (0+(i:Int))=some (.ref r):=by
 have:=zey (ps:=ps++[r]) (show (0:Int)≤0+(i:Int) by omega) (by rw [List.length_append,List.length_singleton];omega);rw [this,show ((0:Int)+(i:Int)).toNat=ps.length by omega,zas]
theorem zim (st:ExS):(Act.deal.next st).hs=st.hs∧(Act.deal.next st).rs=st.rs∧(Act.deal.next st).dl.isSome=(st.dl.isSome || decide (st.hs=[])):=by
 show (if _ then _ else _:ExS).hs=_∧(if _ then _ else _:ExS).rs=_∧(if _ then _ else _:ExS).dl.isSome=_
 by_cases h:st.dl.isSome=true
 ·rw [if_pos h,h];exact ⟨rfl,rfl,rfl⟩
 ·rw [if_neg h];have h':st.dl.isSome=false:=by simpa using h
  by_cases h0:st.hs=[]
  ·rw [if_pos h0,h',decide_eq_true h0];exact ⟨rfl,rfl,rfl⟩
  ·rw [if_neg h0,h',decide_eq_false h0];exact ⟨rfl,rfl,rfl⟩
theorem zin {l:List (Str×Str)} {f:Str×Str→Str} {i:Nat} (h:i < l.length):atI (l.map fun r=>V.str (f r)) (0+(i:Int))=some (.str (f (l.getD i ("","")))):=by
 have e:=zfo (f:=f) h;rw [Int.zero_add];unfold atI ixN;rw [if_pos (by omega),if_pos (by rw [List.length_map];omega)];show (List.map (fun r=>V.str (f r)) l)[((i:Int)).toNat]? = _;rw [List.getElem?_map];rw [show ((i:Int)).toNat=i by omega,List.getElem?_eq_getElem h,List.getD_eq_getElem?_getD,List.getElem?_eq_getElem h];rfl
theorem zgt {H H':Hp} {a o:Addr} {u:HO} (b:But a H H') (e:H' a=some u) (f:H' o=none):H o=none:=by rw [← b o (fun z=>by rw [z,e] at f;cases f)];exact f
def zfG (K:PySem.W.Frag):Sp:=fun vs H Q _=>vs.length=1∧∃ (a:Addr) (ns:List Int),vs=[.ref a]∧SqL K H a (ns.map V.int)∧ns.length≤63∧∀ H',Q (.bl true) H'
theorem zlv (T:Txt K mg t):FnOk P w K mg base CX0 10 t.f_72 t.d_72 ["_law_script"] (zfG K):=by
 have G_65:=zid (P:=P) (w:=w) (base:=base) T;have G_70:=zfs (P:=P) (w:=w) (base:=base) T;have G_69:=zd6 (P:=P) (w:=w) (base:=base) T;have G_71:=zd7 (P:=P) (w:=w) (base:=base) T;have G_68:=zft (P:=P) (w:=w) (base:=base) T;have G_53:=zg2 (P:=P) (w:=w) (base:=base) T;refine T.F_72.ok sc_72 (fun _ _ _ _ h=>h.1) fun cdv A outer s H vs Q E hr h=>by
  refine ⟨_,(zac (zaF (i:=1) sc_72.nd rfl (Or.inl rfl) (zaB pa_nil))
   (zac (zaF (i:=2) sc_72.nd rfl (Or.inl rfl) (zaB pa_nil))
   (zac (zaF (i:=3) sc_72.nd rfl (Or.inl rfl) zeV)
   (zac (zaF (i:=4) sc_72.nd rfl (Or.inl rfl) (zaB pa_nil))
   (zac (zaF (i:=5) sc_72.nd rfl (Or.inl rfl) (zav (op_mod) (zav (op_fdivB) (zan G_65 (hr.mono (by decide)) (by rfl) T.m_65 T.F_65.kp T.b_65 .nil zaI (zaa (pv 0) (zaa zad pa_nil))) zad) zad))
   (zac (zb7 PassesOwn.never rfl (zb5 (by rfl) T.z_range (zaa (zav (op_mulB) zad (zaG (zcJ (K:=K) rfl) (by rfl) T.z_int (by rfl) (zaa (zb8 (zaM (K:=K) rfl hr.units0) (zav (op_mod) (pv 5) zad) zad (zat _)) pa_nil))) pa_nil)) (zaA (i:=6) sc_72.nd rfl (Or.inl rfl))
   (zac (zaz (zaT (K:=K) rfl PySem.F.plainAttrs_list PySem.F.slot_list_append PySem.F.type_list_append mt_append (pv 1) (zaa (zav (op_addG) zad (zav (op_mod) (zav (op_fdivB) (zan G_65 (hr.mono (by decide)) (by rfl) T.m_65 T.F_65.kp T.b_65 .nil zaI (zaa (pv 0) (zaa (zav (op_addG) zad (pv 6)) pa_nil))) zad) zad)) pa_nil)))
   (zae (zaz (zaT (K:=K) rfl PySem.F.plainAttrs_list PySem.F.slot_list_append PySem.F.type_list_append mt_append (pv 4) (zaa (zaB (zaa (zc4 (zbU (zbV (zaD (zag (K:=K) rfl) (pv 1) (pv 6) (fun _ _=>rfl)) pj_nil))) (zaa (zaG (zaS (K:=K) rfl) (by rfl) T.z_str (by rfl) (zaa (zav (op_addG) (pv 6) zad) pa_nil)) pa_nil))) pa_nil))))))
   (zac (zb7 PassesOwn.never rfl (zb5 (by rfl) T.z_range (zaa (zav (op_mulB) zad (zaG (zcJ (K:=K) rfl) (by rfl) T.z_int (by rfl) (zaa (zb8 (op_gt) (pv 5) zad (zat _)) pa_nil))) pa_nil)) (zaA (i:=6) sc_72.nd rfl (Or.inl rfl))
   (zac (zaz (zaT (K:=K) rfl PySem.F.plainAttrs_list PySem.F.slot_list_append PySem.F.type_list_append mt_append (pv 2) (zaa (zaB (zaa (zav (op_mod) (zav (op_fdivB) (zan G_65 (hr.mono (by decide)) (by rfl) T.m_65 T.F_65.kp T.b_65 .nil zaI (zaa (pv 0) (zaa (zav (op_addG) zad (pv 6)) pa_nil))) zad) zad) (zaa (zav (op_mod) (zav (op_fdivB) (zan G_65 (hr.mono (by decide)) (by rfl) T.m_65 T.F_65.kp T.b_65 .nil zaI (zaa (pv 0) (zaa (zav (op_addG) zad (pv 6)) pa_nil))) zad) zad) pa_nil))) pa_nil)))
   (zae (zaz (zaT (K:=K) rfl PySem.F.plainAttrs_list PySem.F.slot_list_append PySem.F.type_list_append mt_append (pv 4) (zaa (zaB (zaa (zc4 (zbU (zbV (zaD (zag (K:=K) rfl) (zaD (zag (K:=K) rfl) (pv 2) (pv 6) (fun _ _=>rfl)) zad (fun _ _=>rfl)) (zbU (zbV (zaD (zag (K:=K) rfl) (zaD (zag (K:=K) rfl) (pv 2) (pv 6) (fun _ _=>rfl)) zad (fun _ _=>rfl)) pj_nil))))) (zaa (zaG (zaS (K:=K) rfl) (by rfl) T.z_str (by rfl) (zaa (zav (op_addG) (pv 6) zad) pa_nil)) pa_nil))) pa_nil))))))
   (zac (zb7 PassesOwn.never rfl (zb5 (by rfl) T.z_range (zaa (zav (op_mod) (zan G_65 (hr.mono (by decide)) (by rfl) T.m_65 T.F_65.kp T.b_65 .nil zaI (zaa (pv 0) (zaa zad pa_nil))) zad) pa_nil)) (zaA (i:=6) sc_72.nd rfl (Or.inl rfl))
   (zac (zaF (i:=7) sc_72.nd rfl (Or.inl rfl) (zav (op_mod) (zan G_65 (hr.mono (by decide)) (by rfl) T.m_65 T.F_65.kp T.b_65 .nil zaI (zaa (pv 0) (zaa (zav (op_addG) zad (pv 6)) pa_nil))) (zav (op_pow) zad zad)))
   (zac (zaF (i:=8) sc_72.nd rfl (Or.inl rfl) (zav (op_mod) (zan G_65 (hr.mono (by decide)) (by rfl) T.m_65 T.F_65.kp T.b_65 .nil zaI (zaa (pv 0) (zaa (zav (op_addG) zad (pv 6)) pa_nil))) (zav (op_pow) zad zad)))
   (zac (zaF (i:=9) sc_72.nd rfl (Or.inl rfl) (zkn (zb8 (zaM (K:=K) rfl hr.units0) (pv 1) (zaB pa_nil) (zat _)) (zi9 (zb8 (op_lt) (zar (zao (K:=K) rfl) (by rfl) T.z_len (by rfl) (zaa (pv 2) pa_nil)) zad (zat _)))))
   (zae (zaK (zcG (zah (zaM (K:=K) rfl hr.units0) (zav (op_mod) (pv 7) zad) zad (zat _)) (zb4 (zah (zaM (K:=K) rfl hr.units0) (zav (op_mod) (zav (op_fdivB) (pv 7) zad) zad) zad (zat _)))).pt
   (zae (zaz (zaT (K:=K) rfl PySem.F.plainAttrs_list PySem.F.slot_list_append PySem.F.type_list_append mt_append (pv 4) (zaa (zaB (zaa (zc4 (zbU (zbV (zav (op_fdivB) (pv 7) zad) (zbU (zbV (zav (op_mod) (pv 8) zad) (zbU (zbV (zav (op_fdivB) (pv 8) zad) pj_nil))))))) (zaa (zan G_70 (hr.mono (by decide)) (by rfl) T.m_70 T.F_70.kp T.b_70 .nil zaI (zaa (pv 3) pa_nil)) pa_nil))) pa_nil)))) (zae (zaK (zah (op_lt) (zav (op_mod) (pv 7) zad) zad (zat _))
   (zae (zaz (zaT (K:=K) rfl PySem.F.plainAttrs_list PySem.F.slot_list_append PySem.F.type_list_append mt_append (pv 4) (zaa (zan G_69 (hr.mono (by decide)) (by rfl) T.m_69 T.F_69.kp T.b_69 .nil zaI (zaa (pv 7) (zaa (pv 8) (zaa (pv 1) (zaa (pv 2) (zaa (pv 3) pa_nil)))))) pa_nil)))) (zae (zaK (zcG (zah (zaM (K:=K) rfl hr.units0) (zav (op_mod) (pv 7) zad) zad (zat _)) (zcG (zah (zaM (K:=K) rfl hr.units0) (zav (op_mod) (zav (op_fdivB) (pv 7) zad) zad) zad (zat _)) (zb4 (zaL (K:=K) rfl (pv 9) (fun _=>rfl))))).pt
   (zac (zaz (zaT (K:=K) rfl PySem.F.plainAttrs_list PySem.F.slot_list_append PySem.F.type_list_append mt_append (pv 4) (zaa (zan G_71 (hr.mono (by decide)) (by rfl) T.m_71 T.F_71.kp T.b_71 .nil zaI (zaa (pv 1) (zaa (pv 3) pa_nil))) pa_nil)))
   (zae (zaF (i:=3) sc_72.nd rfl (Or.inl rfl) (zkn (pv 3) (zi9 (zb8 (zaM (K:=K) rfl hr.units0) (pv 1) (zaB pa_nil) (zat _))))))) (zae (zaK (zdi (zah (op_lt) (zav (op_mod) (zav (op_fdivB) (pv 7) zad) zad) zad (zat _)) (zcn (zaL (K:=K) rfl (pv 9) (fun _=>rfl)))).pt
   (zae (zaz (zaT (K:=K) rfl PySem.F.plainAttrs_list PySem.F.slot_list_append PySem.F.type_list_append mt_append (pv 4) (zaa (zan G_68 (hr.mono (by decide)) (by rfl) T.m_68 T.F_68.kp T.b_68 .nil zaI (zaa (zav (op_mod) (zav (op_fdivB) (pv 7) zad) zad) (zaa (pv 1) (zaa (pv 2) (zaa (pv 3) pa_nil))))) pa_nil)))) pss_nil))))))))))))
   (zac (zc2 (i:=10) sc_72.nd rfl (Or.inl rfl) (by rfl) (zau (sc:=zab s_72) (XN:=["_law_script","_law_homes","_law_staff","_law_dealt","_law_made","_law_fill","_law_k","_law_cell","_law_more","_law_plain","_law_handed","_law_found"]) (N:=["_law_row"]) (own:=1) (js:=[]) rfl rfl (by decide +kernel)) rfl (zaR (K:=K) rfl (pv 4)) (fun _ _ _ _ _=>(zaA (i:=0) (show List.Nodup [(Str.ofString "_law_row")] by decide +kernel) rfl (Or.inl rfl))) (fun _ _ _ _ _=>za5) (fun _ _ _ _ _=>(zaD (zag (K:=K) rfl) (pv 0) zad (fun _ _=>rfl))))
   (zac (zaF (i:=11) sc_72.nd rfl (Or.inl rfl) (zan G_53 (hr.mono (by decide)) (by rfl) T.m_53 T.F_53.kp T.b_53 .nil zaI (zaa (pv 10) pa_nil)))
   (zac (zaK (zdi (zeW (zaL (K:=K) rfl (zar (zbS (K:=K) rfl) (by rfl) T.z_isinstance (by rfl) (zaa (pv 11) (zaa (zg7 (v:=.ty "list") (u:=.type "list") (by rfl) T.z_list (by rfl) rfl) pa_nil))) (fun _=>rfl))) (zdi (zah (zff (K:=K) rfl hr.units0) (zar (zao (K:=K) rfl) (by rfl) T.z_len (by rfl) (zaa (pv 11) pa_nil)) (zar (zao (K:=K) rfl) (by rfl) T.z_len (by rfl) (zaa (pv 4) pa_nil)) (zat _)) (zcn (zah (zff (K:=K) rfl hr.units0) (zar (zao (K:=K) rfl) (by rfl) T.z_len (by rfl) (zaa (pv 10) pa_nil)) (zar (zao (K:=K) rfl) (by rfl) T.z_len (by rfl) (zaa (pv 4) pa_nil)) (zat _))))).pt
   (zae (zaj zeV)) pss_nil)
   (zac (zb7 PassesOwn.never rfl (zb5 (by rfl) T.z_range (zaa (zar (zao (K:=K) rfl) (by rfl) T.z_len (by rfl) (zaa (pv 4) pa_nil)) pa_nil)) (zaA (i:=6) sc_72.nd rfl (Or.inl rfl))
   (zae (zaK (zdi (zeW (zaL (K:=K) rfl (zar (zbS (K:=K) rfl) (by rfl) T.z_isinstance (by rfl) (zaa (zaD (zag (K:=K) rfl) (pv 11) (pv 6) (fun _ _=>rfl)) (zaa (zg7 (v:=.ty "str") (u:=.type "str") (by rfl) T.z_str (by rfl) rfl) pa_nil))) (fun _=>rfl))) (zdi (zah (zff (K:=K) rfl hr.units0) (zaD (zag (K:=K) rfl) (pv 11) (pv 6) (fun _ _=>rfl)) (zaD (zag (K:=K) rfl) (zaD (zag (K:=K) rfl) (pv 4) (pv 6) (fun _ _=>rfl)) zad (fun _ _=>rfl)) (zat _)) (zcn (zah (zff (K:=K) rfl hr.units0) (zaD (zag (K:=K) rfl) (pv 10) (pv 6) (fun _ _=>rfl)) (zaD (zag (K:=K) rfl) (zaD (zag (K:=K) rfl) (pv 4) (pv 6) (fun _ _=>rfl)) zad (fun _ _=>rfl)) (zat _))))).pt
   (zae (zaj zeV)) pss_nil)))
   (zae (zaj zeV)))))))))))))),?_⟩
  obtain ⟨_,s0,ns,rfl,hS,hl,q⟩:=h;symm;refine zam (by decide) fun a H1 f1 s1 e1=>?_;symm;refine zam (by decide) fun b H2 f2 s2 e2=>?_;symm;refine zam (by decide) fun m H3 f3 s3 e3=>?_;have A0:=Acc.start f1 s1 e1 f2 s2 e2 f3 s3 e3;have hS3:=A0.same.seq hS;walk_at "st";refine ziD ?_;walk_at "st";generalize zbQ ns 0 / 41 % 4=fill;refine zby (fun σ J=>∃ (v6:Option V) (ps ms:List Addr) (l:List (Str×Str)) (as:List Act),σ=[some (.ref s0),some (.ref a),some (.ref b),some (.bl false),some (.ref m),some (.int fill),v6,none,none,none,none,none]∧Acc H J a b m ps ms l as∧(stA as as.length).dl=none∧(stA as as.length).rs=[]∧l.length≤10) ?_ ?_
  ·intro nx' hnx;symm;refine ze6 (by split <;> omega) (by split <;> omega) ?_;refine zej (fun i σ J=>∃ (v6:Option V) (ps ms:List Addr) (l:List (Str×Str)) (as:List Act),σ=[some (.ref s0),some (.ref a),some (.ref b),some (.bl false),some (.ref m),some (.int fill),v6,none,none,none,none,none]∧Acc H J a b m ps ms l as∧(stA as as.length).dl=none∧(stA as as.length).hs.length=i∧(stA as as.length).rs=[]∧l.length=i) ⟨none,[],[],[],[],rfl,A0,rfl,rfl,rfl,rfl⟩ ?_ ?_
   ·rintro i σ J hi ⟨v6,ps,ms,l,as,rfl,A,hdl,hhl,hrs,hll⟩;have hi10:i < 10:=by
     have hi:i < _:=hi;split at hi <;> omega
    have hSJ:=A.same.seq hS;have ha:=A.ld.ha;have hml:=A.ml;symm;have hh:1≤1+zbQ ns (1+(0+(i:Int))) / 7 % 6∧1+zbQ ns (1+(0+(i:Int))) / 7 % 6≤6:=by omega
    generalize 1+zbQ ns (1+(0+(i:Int))) / 7 % 6=h at *;refine zap ha (by rw [List.length_map];omega) fun J1 b1 e1'=>?_;have L1:=A.ld.paper b1 e1';have ha1:=L1.ha;have hm1:J1 m=some (.lst (ms.map V.ref)):=by rw [b1 _ A.ma];exact A.hm
    have hn:h.natAbs < 10 ^ 40:=by omega
    have htl:(Str.ofString (toString h)).length≤41:=za8 hn;symm;refine zdj (SqL.of ha1) (zi8 hhl) ?_;symm;refine zbz (by omega) ?_;symm;refine zam (by simp) fun o J2 f2' s2' e2'=>?_;have hm2:=s2' _ _ hm1;symm;refine zap hm2 (by rw [List.length_map];omega) fun J3 b3 e3'=>?_;symm;have hw:=zil (h:=h) hdl hh (by omega);obtain ⟨z1,z2⟩:=zbN hw;have fo:J o=none:=zgt b1 e1' f2';refine ⟨_,ps,ms++[o],_,as++[.bring (.paper h)],rfl,A.push (ac:=.bring (.paper h)) (t:=Str.ofString "paper "++tS h) ((Fr2.refl.butA b1).same s2') fo ?_ (by rw [z2];exact L1.same s2') (fun p hp=>.inl hp) (zfp hn) (fun j hj=>by rw [List.mem_singleton.mp hj];exact hn) b3 e3',?_,?_,?_,?_⟩
    ·rw [e2',z1,zfW];show _=some (HO.lst [_,.str (tS (((stA as as.length).hs.length:Int)+1))]);rw [hhl,show (0:Int)+(i:Int)+1=(i:Int)+1 by omega]
    ·rw [List.length_append,List.length_singleton,zcw,zdv];exact hdl
    ·rw [List.length_append,List.length_singleton,zcw,z2];show ((stA as as.length).hs++[h]).length=_;rw [List.length_append,List.length_singleton,hhl]
    ·rw [List.length_append,List.length_singleton,zcw,z2];exact hrs
    ·rw [List.length_append,List.length_singleton,hll]
   ·rintro σ J ⟨v6,ps,ms,l,as,rfl,A,hdl,hhl,hrs,hll⟩;exact hnx _ _ ⟨v6,ps,ms,l,as,rfl,A,hdl,hrs,by rw [hll];split <;> omega⟩
  rintro σ J ⟨v6,ps,ms,l,as,rfl,A1,hdl1,hrs1,hll1⟩;walk_at "st";refine zby (fun σ J=>∃ (v6:Option V) (ps ms:List Addr) (l:List (Str×Str)) (as:List Act),σ=[some (.ref s0),some (.ref a),some (.ref b),some (.bl false),some (.ref m),some (.int fill),v6,none,none,none,none,none]∧Acc H J a b m ps ms l as∧(stA as as.length).dl=none∧l.length≤18) ?_ ?_
  ·intro nx' hnx;symm;refine ze6 (by split <;> omega) (by split <;> omega) ?_;refine zej (fun i σ J=>∃ (v6:Option V) (ps ms:List Addr) (l:List (Str×Str)) (as:List Act),σ=[some (.ref s0),some (.ref a),some (.ref b),some (.bl false),some (.ref m),some (.int fill),v6,none,none,none,none,none]∧Acc H J a b m ps ms l as∧(stA as as.length).dl=none∧(stA as as.length).rs.length=i∧l.length≤10+i) ⟨v6,ps,ms,l,as,rfl,A1,hdl1,by rw [hrs1];rfl,hll1⟩ ?_ ?_
   ·rintro i σ J hi ⟨v6,ps,ms,l,as,rfl,A,hdl,hrl,hll⟩;have hi8:i < 8:=by
     have hi:i < _:=hi;split at hi <;> omega
    have hSJ:=A.same.seq hS;have hb:=A.ld.hb;have hml:=A.ml;have hpl:ps.length=i:=by rw [A.ld.len,hrl]
    symm;have hx:0≤zbQ ns (11+(0+(i:Int))) / 5 % 7∧zbQ ns (11+(0+(i:Int))) / 5 % 7≤6:=by omega
    have hy:0≤zbQ ns (11+(0+(i:Int))) / 35 % 31∧zbQ ns (11+(0+(i:Int))) / 35 % 31≤30:=by omega
    generalize zbQ ns (11+(0+(i:Int))) / 5 % 7=x at *;generalize zbQ ns (11+(0+(i:Int))) / 35 % 31=y at *;refine zam (by simp) fun r J1 f1' s1' e1'=>?_;have e1':J1 r=some (.lst (([x,y]:List Int).map V.int)):=e1';have hb1:=s1' _ _ hb;symm;refine zap hb1 (by rw [List.length_map];omega) fun J2 b2 e2'=>?_;have L2:=A.ld.reader f1' s1' e1' b2 e2';have hb2:=L2.hb;have hr2:J2 r=some (.lst [.int x,.int y]):=by rw [b2 _ (zaf A.ld.hb f1').symm];exact e1'
    have hm2:J2 m=some (.lst (ms.map V.ref)):=by rw [b2 _ A.mb];exact s1' _ _ A.hm
    have hnx:x.natAbs < 10 ^ 40:=by omega
    have hny:y.natAbs < 10 ^ 40:=by omega
    have hxl:(Str.ofString (toString x)).length≤41:=za8 hnx;have hyl:(Str.ofString (toString y)).length≤41:=za8 hny;symm;refine zdj (SqL.of hb2) (zfF hpl) ?_;symm;refine zdj (SqL.of hb2) (zfF hpl) ?_;symm;refine zbz (by omega) ?_;symm;refine zam (by simp) fun o J3 f3' s3' e3'=>?_;have hm3:=s3' _ _ hm2;symm;refine zap hm3 (by rw [List.length_map];omega) fun J4 b4 e4'=>?_;symm;have hw:=zg3 (h:=x) (l:=y) hdl hx hy (by omega);obtain ⟨z1,z2⟩:=zbN hw;have fo:J o=none:=s1'.free (zgt b2 e2' f3');refine ⟨_,ps++[r],ms++[o],_,as++[.bring (.reader x y)],rfl,A.push (ac:=.bring (.reader x y)) (t:=((Str.ofString "reader "++tS x)++" ")++tS y) (((Fr2.of s1').butB b2).same s3') fo ?_ (by rw [z2];exact L2.same s3') (fun p hp=>?_) (zel hnx hny) (fun j hj=>?_) b4 e4',?_,?_,?_⟩
    ·rw [e3',z1,zfW];show _=some (HO.lst [_,.str (tS (((stA as as.length).rs.length:Int)+1))]);rw [hrl,show (0:Int)+(i:Int)+1=(i:Int)+1 by omega]
    ·rcases List.mem_append.mp hp with z | z
     ·exact .inl z
     ·rw [List.mem_singleton.mp z];exact .inr f1'
    ·rcases List.mem_cons.mp hj with z | z
     ·rw [z];exact hnx
     ·rw [List.mem_singleton.mp z];exact hny
    ·rw [List.length_append,List.length_singleton,zcw,zdv];exact hdl
    ·rw [List.length_append,List.length_singleton,zcw,z2];show ((stA as as.length).rs++[[x,y]]).length=_;rw [List.length_append,List.length_singleton,hrl]
    ·rw [List.length_append,List.length_singleton];omega
   ·rintro σ J ⟨v6,ps,ms,l,as,rfl,A,hdl,hhl,hll⟩;exact hnx _ _ ⟨v6,ps,ms,l,as,rfl,A,hdl,by
     have:l.length≤10+_:=hll;split at this <;> omega⟩
  rintro σ J ⟨v6,ps,ms,l,as,rfl,A2,hdl2,hll2⟩;walk_at "st";refine zby (fun σ J=>∃ (v3:Bool) (v6 v7 v8 v9:Option V) (ps ms:List Addr) (l:List (Str×Str)) (as:List Act),σ=[some (.ref s0),some (.ref a),some (.ref b),some (.bl v3),some (.ref m),some (.int fill),v6,v7,v8,v9,none,none]∧Acc H J a b m ps ms l as∧l.length≤100) ?_ ?_
  ·intro nx' hnx;have hSJ:=A2.same.seq hS;symm;refine ze6 (by omega) (by omega) ?_;refine zej (fun i σ J=>∃ (v6 v7 v8 v9:Option V) (ps ms:List Addr) (l:List (Str×Str)) (as:List Act),σ=[some (.ref s0),some (.ref a),some (.ref b),some (.bl (stA as as.length).dl.isSome),some (.ref m),some (.int fill),v6,v7,v8,v9,none,none]∧Acc H J a b m ps ms l as∧l.length≤18+i) ⟨v6,none,none,none,ps,ms,l,as,by rw [hdl2];rfl,A2,hll2⟩ ?_ ?_
   ·rintro i σ J hi ⟨v6,v7,v8,v9,ps,ms,l,as,rfl,A,hll⟩;have hi41:i < 41:=by
     have hi:i < _:=hi;omega
    have hSJ:=A.same.seq hS;have DD:=D31.at as as.length;have BB:=DD.inb;have B1:=BB.lp;have B2:=BB.lr;have ha:=A.ld.ha;have hb:=A.ld.hb;have hml:=A.ml;have hpl:=A.ld.len;have h25:(0:Int) < 10 ^ Int.toNat 25:=(by decide);walk_at "st";refine ziD ?_;walk_at "st";refine ziD ?_;walk_at "st";have hc0:0≤zbQ ns (1+(0+(i:Int))) % 10 ^ Int.toNat 25:=Int.emod_nonneg _ (by decide);have hc1:zbQ ns (1+(0+(i:Int))) % 10 ^ Int.toNat 25 < 10 ^ 25:=Int.emod_lt_of_pos _ (by decide);have hm0:0≤zbQ ns (42+(0+(i:Int))) % 10 ^ Int.toNat 25:=Int.emod_nonneg _ (by decide);have hm1:zbQ ns (42+(0+(i:Int))) % 10 ^ Int.toNat 25 < 10 ^ 25:=Int.emod_lt_of_pos _ (by decide);generalize zbQ ns (1+(0+(i:Int))) % 10 ^ Int.toNat 25=cell at *;generalize zbQ ns (42+(0+(i:Int))) % 10 ^ Int.toNat 25=more at *;walk_at "st";refine zby (fun σ J'=>∃ p:Bool,σ=[some (.ref s0),some (.ref a),some (.ref b),some (.bl (stA as as.length).dl.isSome),some (.ref m),some (.int fill),some (.int (0+(i:Int))),some (.int cell),some (.int more),some (.bl p),none,none]∧Same J J'∧(p=true→zdH (stA as as.length))) ?_ ?_
    ·intro nx2 hnx2;symm;refine zam (by decide) fun o1 J1 g1 t1 d1=>?_;have ha1:=t1 _ _ ha;have hb1:=t1 _ _ hb;symm;refine zhS (SqL.of ha1) (SqL.of d1) ?_;symm;refine zbm (fun z=>?_) (fun z=>?_)
     ·symm;exact hnx2 _ _ ⟨true,rfl,t1,fun _=>.inl (List.map_eq_nil_iff.mp z)⟩
     ·symm;exact hnx2 _ _ ⟨_,rfl,t1,fun z=>.inr (by have:=of_decide_eq_true z;omega)⟩
    rintro σ J1 ⟨p,rfl,t1,hp⟩;have A1:=A.grow t1;have hm1':=A1.hm;have ha1:=A1.ld.ha;have hb1:=A1.ld.hb;clear ha hb hSJ A;have fin:∀ (ac:Act) (o:Addr) (J2 J3:Hp) (ps':List Addr) (t:Str) (v6 v7 v8 v9:Option V) (dd:Bool),Fr2 a b J1 J2→J1 o=none→J2 o=some (.lst [.str t,.str (ac.ans (stA as as.length))])→Ldg J2 a b ps' (ac.next (stA as as.length)).hs (ac.next (stA as as.length)).rs→(∀ p∈ps',p∈ps∨J1 p=none)→RowT t ac.words→ac.ok (stA as as.length)→But m J2 J3→J3 m=some (.lst (ms.map V.ref++[.ref o]))→dd=(ac.next (stA as as.length)).dl.isSome→∃ (w6 w7 w8 w9:Option V) (ps ms:List Addr) (l:List (Str×Str)) (as:List Act),[some (.ref s0),some (.ref a),some (.ref b),some (.bl dd),some (.ref m),some (.int fill),v6,v7,v8,v9,none,none]=[some (.ref s0),some (.ref a),some (.ref b),some (.bl (stA as as.length).dl.isSome),some (.ref m),some (.int fill),w6,w7,w8,w9,none,none]∧Acc H J3 a b m ps ms l as∧l.length≤18+(i+1):=fun ac o J2 J3 ps' t v6 v7 v8 v9 dd f fo eo L hps hr hok b3 e3 hdd =>
     ⟨v6,v7,v8,v9,ps',ms++[o],_,as++[ac],by rw [hdd,List.length_append,List.length_singleton,zcw],A1.push f fo eo L hps hr hok b3 e3,by rw [List.length_append,List.length_singleton];omega⟩
    have hkeep:∃ (w6 w7 w8 w9:Option V) (ps ms:List Addr) (l:List (Str×Str)) (as':List Act),[some (.ref s0),some (.ref a),some (.ref b),some (.bl (stA as as.length).dl.isSome),some (.ref m),some (.int fill),some (.int (0+(i:Int))),some (.int cell),some (.int more),some (.bl p),none,none]=[some (.ref s0),some (.ref a),some (.ref b),some (.bl (stA as' as'.length).dl.isSome),some (.ref m),some (.int fill),w6,w7,w8,w9,none,none]∧Acc H J1 a b m ps ms l as'∧l.length≤18+(i+1):=⟨_,_,_,_,ps,ms,l,as,rfl,A1,by omega⟩
    have ask:∀ (k:Int),0≤k→k < 5→(k=4→zdH (stA as as.length))→(Act.ask (qOf k)).ok (stA as as.length):=fun k k0 k5 hk=>by
     rcases (show k=0∨k=1∨k=2∨k=3∨k=4 by omega) with rfl | rfl | rfl | rfl | rfl
     ·trivial
     ·trivial
     ·trivial
     ·trivial
     ·exact hk rfl
    have sEnter:(cell % 8=2∧cell / 8 % 2=0)→_:=fun z=>z
    by_cases c1:cell % 8=2∧cell / 8 % 2=0
    ·obtain ⟨c11,c12⟩:=c1;have n1:(cell / 16).natAbs < 10 ^ 40:=by omega
     have n2:(more % 9).natAbs < 10 ^ 40:=by omega
     have n3:(more / 9).natAbs < 10 ^ 40:=by omega
     have l1:(Str.ofString (toString (cell / 16))).length≤41:=za8 n1;have l2:(Str.ofString (toString (more % 9))).length≤41:=za8 n2;have l3:(Str.ofString (toString (more / 9))).length≤41:=za8 n3;walk_at "rdk";refine zfX ?_;symm;refine zam (by simp) fun o J2 g2 t2 d2=>?_;have hm2:=t2 _ _ hm1';symm;refine zap hm2 (by rw [List.length_map];omega) fun J3 b3 e3'=>?_;symm;refine fin (.enter (cell / 16) (more % 9) (more / 9)) o J2 J3 ps _ _ _ _ _ _ (Fr2.of t2) g2 (by rw [d2,zfW];rfl) (A1.ld.same t2) (fun p hp=>.inl hp) (zib n1 n2 n3) (fun j hj=>?_) b3 e3' rfl;rcases List.mem_cons.mp hj with z | z
     ·rw [z];exact n1
     ·rcases List.mem_cons.mp z with z | z
      ·rw [z];exact n2
      ·rw [List.mem_singleton.mp z];exact n3
    by_cases d6:cell % 8 < 6
    ·by_cases e:cell % 8=2
     ·walk_at "rdk";refine zcN (stA as as.length) rfl A1.ld DD hc0 hc1 hm0 hm1 fun o J2 ps' t d f g2 d2 L2 hps hr hok=>?_;have hm2:J2 m=some (.lst (ms.map V.ref)):=f _ _ hm1' A1.ma A1.mb;symm;refine zap hm2 (by rw [List.length_map];omega) fun J3 b3 e3'=>?_;symm;exact fin (.bring d) o J2 J3 ps' t _ _ _ _ _ f g2 d2 L2 hps hr hok b3 e3' (by rw [zdv])
     ·walk_at "rdk";refine zcN (stA as as.length) rfl A1.ld DD hc0 hc1 hm0 hm1 fun o J2 ps' t d f g2 d2 L2 hps hr hok=>?_;have hm2:J2 m=some (.lst (ms.map V.ref)):=f _ _ hm1' A1.ma A1.mb;symm;refine zap hm2 (by rw [List.length_map];omega) fun J3 b3 e3'=>?_;symm;exact fin (.bring d) o J2 J3 ps' t _ _ _ _ _ f g2 d2 L2 hps hr hok b3 e3' (by rw [zdv])
    by_cases dd:cell % 8=6∧cell / 8 % 3=0∧p=true
    ·obtain ⟨d1,d2',rfl⟩:=dd;walk_at "rdk";refine zeM (stA as as.length) rfl ha1 fun o J2 g2 t2 d2=>?_;have hm2:=t2 _ _ hm1';have ha2:=t2 _ _ ha1;symm;refine zap hm2 (by rw [List.length_map];omega) fun J3 b3 e3'=>?_;have ha3:J3 a=some (.lst ((stA as as.length).hs.map V.int)):=by rw [b3 _ A1.ma.symm];exact ha2
     obtain ⟨n1,n2,n3⟩:=zim (stA as as.length);symm
     cases hd:(stA as as.length).dl.isSome with
     | true =>
       refine iteT ?_;symm;have:=fin .deal o J2 J3 ps "deal" (some (.int (0+(i:Int)))) (some (.int cell)) (some (.int more)) (some (.bl true)) true (Fr2.of t2) g2 d2 (by rw [n1,n2];exact A1.ld.same t2) (fun p hp=>.inl hp) row_deal (hp rfl) b3 e3' (by rw [n3,hd];rfl);exact this
     | false =>
       refine iteF ?_;symm;refine zam (by decide) fun o4 J4 g4 t4 d4=>?_;symm;refine zhS (SqL.of (t4 _ _ ha3)) (SqL.of d4) ?_;symm;obtain ⟨w6,w7,w8,w9,q1,q2,q3,q4,z1,z2,z3⟩:=fin .deal o J2 J3 ps "deal" (some (.int (0+(i:Int)))) (some (.int cell)) (some (.int more)) (some (.bl true)) (decide ((stA as as.length).hs.map V.int=[])) (Fr2.of t2) g2 d2 (by rw [n1,n2];exact A1.ld.same t2) (fun p hp=>.inl hp) row_deal (hp rfl) b3 e3' (by rw [n3,hd,Bool.false_or];exact decide_eq_decide.mpr ⟨List.map_eq_nil_iff.mp,fun z=>by rw [z];rfl⟩);exact ⟨w6,w7,w8,w9,q1,q2,q3,q4,z1,z2.grow t4,z3⟩
    have hC:cell % 8=7∨(cell % 8=6∧¬cell / 8 % 3=0)∨(cell % 8=6∧cell / 8 % 3=0∧p=false):=by
     by_cases x1:cell % 8=6
     ·by_cases x2:cell / 8 % 3=0
      ·exact .inr (.inr ⟨x1,x2,by cases p;rfl;exact absurd ⟨x1,x2,rfl⟩ dd⟩)
      ·exact .inr (.inl ⟨x1,x2⟩)
     ·exact .inl (by omega)
    by_cases k4:cell / 8 % 5 < 4
    ·rcases hC with x | ⟨x,y⟩ | ⟨x,y,rfl⟩
     ·walk_at "rdk";refine zbB (stA as as.length) rfl A1.ld DD (by omega) (by omega) fun o J2 g2 t2 d2=>?_;have hm2:=t2 _ _ hm1';symm;refine zap hm2 (by rw [List.length_map];omega) fun J3 b3 e3'=>?_;symm;exact fin (.ask (qOf (cell / 8 % 5))) o J2 J3 ps _ _ _ _ _ _ (Fr2.of t2) g2 d2 (A1.ld.same t2) (fun p hp=>.inl hp) (zdI _) (ask _ (by omega) (by omega) (fun z=>absurd z (by omega))) b3 e3' rfl
     ·walk_at "rdk";refine zbB (stA as as.length) rfl A1.ld DD (by omega) (by omega) fun o J2 g2 t2 d2=>?_;have hm2:=t2 _ _ hm1';symm;refine zap hm2 (by rw [List.length_map];omega) fun J3 b3 e3'=>?_;symm;exact fin (.ask (qOf (cell / 8 % 5))) o J2 J3 ps _ _ _ _ _ _ (Fr2.of t2) g2 d2 (A1.ld.same t2) (fun p hp=>.inl hp) (zdI _) (ask _ (by omega) (by omega) (fun z=>absurd z (by omega))) b3 e3' rfl
     ·walk_at "rdk";refine zbB (stA as as.length) rfl A1.ld DD (by omega) (by omega) fun o J2 g2 t2 d2=>?_;have hm2:=t2 _ _ hm1';symm;refine zap hm2 (by rw [List.length_map];omega) fun J3 b3 e3'=>?_;symm;exact fin (.ask (qOf (cell / 8 % 5))) o J2 J3 ps _ _ _ _ _ _ (Fr2.of t2) g2 d2 (A1.ld.same t2) (fun p hp=>.inl hp) (zdI _) (ask _ (by omega) (by omega) (fun z=>absurd z (by omega))) b3 e3' rfl
    ·cases p with
     | false =>
       rcases hC with x | ⟨x,y⟩ | ⟨x,y,_⟩
       ·walk_at "rdk";exact hkeep
       ·walk_at "rdk";exact hkeep
       ·walk_at "rdk";exact hkeep
     | true =>
       rcases hC with x | ⟨x,y⟩ | ⟨x,y,z⟩
       ·walk_at "rdk";refine zbB (stA as as.length) rfl A1.ld DD (by omega) (by omega) fun o J2 g2 t2 d2=>?_;have hm2:=t2 _ _ hm1';symm;refine zap hm2 (by rw [List.length_map];omega) fun J3 b3 e3'=>?_;symm;exact fin (.ask (qOf (cell / 8 % 5))) o J2 J3 ps _ _ _ _ _ _ (Fr2.of t2) g2 d2 (A1.ld.same t2) (fun p hp=>.inl hp) (zdI _) (ask _ (by omega) (by omega) (fun z=>hp rfl)) b3 e3' rfl
       ·walk_at "rdk";refine zbB (stA as as.length) rfl A1.ld DD (by omega) (by omega) fun o J2 g2 t2 d2=>?_;have hm2:=t2 _ _ hm1';symm;refine zap hm2 (by rw [List.length_map];omega) fun J3 b3 e3'=>?_;symm;exact fin (.ask (qOf (cell / 8 % 5))) o J2 J3 ps _ _ _ _ _ _ (Fr2.of t2) g2 d2 (A1.ld.same t2) (fun p hp=>.inl hp) (zdI _) (ask _ (by omega) (by omega) (fun z=>hp rfl)) b3 e3' rfl
       ·cases z
   ·rintro σ J ⟨v6,v7,v8,v9,ps,ms,l,as,rfl,A,hll⟩;exact hnx _ _ ⟨_,v6,v7,v8,v9,ps,ms,l,as,rfl,A,by
     have:l.length≤18+_:=hll;omega⟩
  rintro σ J ⟨v3,v6,v7,v8,v9,ps,ms,l,as,rfl,A3,hll3⟩;have hml:=A3.ml;have hm:=A3.hm;symm;refine zba (SqL.of hm) ?_;refine za0 (zaZ (SqL.of hm)) (zaH (by rw [List.length_map];omega)) (fun _=>true) (fun i=>.str (l.getD i ("","")).1) (fun i H' Q' hi s q'=>q') (fun i H' Q' hi s _ q'=>?_) fun p4 hp4=>?_
  ·rw [List.length_map] at hi;have ex:((ms.map V.ref).getD i .non)=.ref (ms.getD i 0):=by rw [List.getD_eq_getElem?_getD,List.getElem?_map,List.getElem?_eq_getElem hi,List.getD_eq_getElem?_getD,List.getElem?_eq_getElem hi];rfl
   rw [ex];show (_:TE) (some (.ref _)::_) _ _;have hrow:=s _ _ (A3.mr i (by omega));symm;exact q'
  rw [List.filter_eq_self.mpr (fun _ _=>rfl),List.length_map,hml];have em:(List.range l.length).map (fun i=>V.str (l.getD i ("","")).1)=l.map fun r=>V.str r.1:=by
   conv=>rhs;rw [← za4 l ("","")]
   rw [List.map_map];rfl
  rw [em];have e4:(upd J p4 (.lst (l.map fun r=>V.str r.1))) p4=some (.lst (l.map fun r=>V.str r.1)):=zaq;have s4:Same J (upd J p4 (.lst (l.map fun r=>V.str r.1))):=zaC hp4;generalize upd J p4 (.lst (l.map fun r=>V.str r.1))=J4 at e4 s4;symm;refine zik e4 (by omega) A3.run fun p5 J5 s5 e5=>?_;have e45:=s5 _ _ e4;have hm5:=s5 _ _ (s4 _ _ hm);have A5:=(A3.grow s4).grow s5;symm;refine iteF ?_;symm;rw [List.length_map,hml];rw [decide_eq_true (rfl:(l.length:Int)=(l.length:Int))];refine iteF ?_;symm;rw [List.length_map,hml];rw [decide_eq_true (rfl:(l.length:Int)=(l.length:Int))];refine iteF ?_;symm;refine ze6 (by omega) (by omega) ?_;refine zej (fun i σ J'=>∃ v6:Option V,σ=[some (.ref s0),some (.ref a),some (.ref b),some (.bl v3),some (.ref m),some (.int fill),v6,v7,v8,v9,some (.ref p4),some (.ref p5)]∧J5=J') ⟨v6,rfl,rfl⟩ ?_ ?_
  ·rintro i σ J' hi ⟨v6,rfl,rfl⟩;have hi:i < l.length:=by
    have hi:i < _:=hi;omega
   have x5:atI (l.map fun r=>V.str r.2) (0+(i:Int))=some (.str (l.getD i ("","")).2):=zin (f:=fun r=>r.2) hi;have x4:atI (l.map fun r=>V.str r.1) (0+(i:Int))=some (.str (l.getD i ("","")).1):=zin (f:=fun r=>r.1) hi;have xm:atI (ms.map V.ref) (0+(i:Int))=some (.ref (ms.getD i 0)):=by
    have:=zey (ps:=ms) (show (0:Int)≤0+(i:Int) by omega) (by omega);rw [this,show ((0:Int)+(i:Int)).toNat=i by omega]
   have hrow:J5 (ms.getD ((0:Int)+(i:Int)).toNat 0)=some (.lst [.str (l.getD i ("","")).1,.str (l.getD i ("","")).2]):=by rw [show ((0:Int)+(i:Int)).toNat=i by omega];exact A5.mr i hi
   symm;refine zdj (SqL.of e5) x5 ?_;symm;refine iteF ?_;symm;refine zdj (SqL.of e5) x5 ?_;symm;refine zjm ?_;rw [decide_eq_true rfl];symm;refine iteF ?_;symm;refine zdj (SqL.of e45) x4 ?_;symm;refine zjm ?_;rw [decide_eq_true rfl];symm;refine iteF ?_;symm;exact ⟨_,rfl,rfl⟩
  ·rintro σ J' ⟨v6,rfl,rfl⟩;symm;exact q _
theorem law_start {a:Addr} {ns:List Int} {H:Hp} (hl:ns.length≤63) (hS:SqL K H a (ns.map V.int)):zfG K [.ref a] H (fun v _=>v=.bl true) fun _ _ _=>False:=⟨rfl,a,ns,rfl,hS,hl,fun _=>rfl⟩
end
theorem zlw {l:PySem.W.OpenLaw} {w:World} {K:PySem.W.Frag} {h:Heap} {mg:Str→Option Value} {fa:Addr} (X:K.In h) (G:h.Ns mainGlobals mg) (hfa:mg "law" = some (.ref fa))
  {C_Exam:Addr} (aC_Exam:PySem.W.nsIn K mainGlobals "Exam" = some (some (.ref C_Exam)))
  {tk_READERS_EACH:Tok}
  {tk_MOST_HOUSES:Tok}
  {tk_MOST_PAPERS:Tok}
  {tk_MOST_LIMIT:Tok}
  {tk_MOST_READERS:Tok}
  {tk_MOST_STEP:Tok}
  {tk_MOST_POINTS:Tok}
  {X_OutOfTime X_UnknownNumber X_NotDue X_OutOfBounds X_Full X_ReadError:Addr}
  {q_QUESTIONS:Addr} {qd_QUESTIONS:Option Addr} {qn_QUESTIONS:Nat} {qs_QUESTIONS:Array (Option Value)} {qt_QUESTIONS_0 qt_QUESTIONS_1 qt_QUESTIONS_2 qt_QUESTIONS_3 qt_QUESTIONS_4:Tok}
  (a0:PySem.W.nsIn K mainGlobals "_law_at" = some (some (.ref f0))) (l0:K.lookup f0=some ⟨oc0,od0,.func (PySem.W.fnOf "_law_at" "_law_at" (zal s_65) (zai s_65) (zab s_65) .none kV0 dc0 pm0 an0 cd0 ct0),sl0⟩) (c0:PySem.W.codeIn K cd0 "_law_at" = true) (k0:PySem.W.keepIn K (.ref f0)=true)
  (a1:PySem.W.nsIn K mainGlobals "_law_early" = some (some (.ref f1))) (l1:K.lookup f1=some ⟨oc1,od1,.func (PySem.W.fnOf "_law_early" "_law_early" (zal s_70) (zai s_70) (zab s_70) .none kV1 dc1 pm1 an1 cd1 ct1),sl1⟩) (c1:PySem.W.codeIn K cd1 "_law_early" = true) (k1:PySem.W.keepIn K (.ref f1)=true)
  (a2:PySem.W.nsIn K mainGlobals "_law_wild" = some (some (.ref f2))) (l2:K.lookup f2=some ⟨oc2,od2,.func (PySem.W.fnOf "_law_wild" "_law_wild" (zal s_66) (zai s_66) (zab s_66) .none kV2 dc2 pm2 an2 cd2 ct2),sl2⟩) (c2:PySem.W.codeIn K cd2 "_law_wild" = true) (k2:PySem.W.keepIn K (.ref f2)=true)
  (a3:PySem.W.nsIn K mainGlobals "_law_bring_faults" = some (some (.ref f3))) (l3:K.lookup f3=some ⟨oc3,od3,.func (PySem.W.fnOf "_law_bring_faults" "_law_bring_faults" (zal s_67) (zai s_67) (zab s_67) .none kV3 dc3 pm3 an3 cd3 ct3),sl3⟩) (c3:PySem.W.codeIn K cd3 "_law_bring_faults" = true) (k3:PySem.W.keepIn K (.ref f3)=true)
  (a4:PySem.W.nsIn K mainGlobals "_law_brought" = some (some (.ref f4))) (l4:K.lookup f4=some ⟨oc4,od4,.func (PySem.W.fnOf "_law_brought" "_law_brought" (zal s_69) (zai s_69) (zab s_69) .none kV4 dc4 pm4 an4 cd4 ct4),sl4⟩) (c4:PySem.W.codeIn K cd4 "_law_brought" = true) (k4:PySem.W.keepIn K (.ref f4)=true)
  (a5:PySem.W.nsIn K mainGlobals "_law_dealing" = some (some (.ref f5))) (l5:K.lookup f5=some ⟨oc5,od5,.func (PySem.W.fnOf "_law_dealing" "_law_dealing" (zal s_71) (zai s_71) (zab s_71) .none kV5 dc5 pm5 an5 cd5 ct5),sl5⟩) (c5:PySem.W.codeIn K cd5 "_law_dealing" = true) (k5:PySem.W.keepIn K (.ref f5)=true)
  (a6:PySem.W.nsIn K mainGlobals "_law_asked" = some (some (.ref f6))) (l6:K.lookup f6=some ⟨oc6,od6,.func (PySem.W.fnOf "_law_asked" "_law_asked" (zal s_68) (zai s_68) (zab s_68) .none kV6 dc6 pm6 an6 cd6 ct6),sl6⟩) (c6:PySem.W.codeIn K cd6 "_law_asked" = true) (k6:PySem.W.keepIn K (.ref f6)=true)
  (a7:PySem.W.findIn K (.ref C_Exam) "__init__" = some (some (.ref f7))) (i7:PySem.W.isFn K (.ref f7)=true) (l7:K.lookup f7=some ⟨oc7,od7,.func (PySem.W.fnOf "__init__" "Exam.__init__" (zal s_30) (zai s_30) (zab s_30) .none kV7 dc7 pm7 an7 cd7 ct7),sl7⟩) (c7:PySem.W.codeIn K cd7 "Exam.__init__" = true) (k7:PySem.W.keepIn K (.ref f7)=true)
  (a8:PySem.W.nsIn K mainGlobals "in_one_row" = some (some (.ref f8))) (l8:K.lookup f8=some ⟨oc8,od8,.func (PySem.W.fnOf "in_one_row" "in_one_row" (zal s_60) (zai s_60) (zab s_60) .none kV8 dc8 pm8 an8 cd8 ct8),sl8⟩) (c8:PySem.W.codeIn K cd8 "in_one_row" = true) (k8:PySem.W.keepIn K (.ref f8)=true)
  (a9:PySem.W.nsIn K mainGlobals "dealing_part" = some (some (.ref f9))) (l9:K.lookup f9=some ⟨oc9,od9,.func (PySem.W.fnOf "dealing_part" "dealing_part" (zal s_61) (zai s_61) (zab s_61) .none kV9 dc9 pm9 an9 cd9 ct9),sl9⟩) (c9:PySem.W.codeIn K cd9 "dealing_part" = true) (k9:PySem.W.keepIn K (.ref f9)=true)
  (a10:PySem.W.nsIn K mainGlobals "told_dealing" = some (some (.ref f10))) (l10:K.lookup f10=some ⟨oc10,od10,.func (PySem.W.fnOf "told_dealing" "told_dealing" (zal s_58) (zai s_58) (zab s_58) .none kV10 dc10 pm10 an10 cd10 ct10),sl10⟩) (c10:PySem.W.codeIn K cd10 "told_dealing" = true) (k10:PySem.W.keepIn K (.ref f10)=true)
  (a11:PySem.W.findIn K (.ref C_Exam) "dealing" = some (some (.ref f11))) (i11:PySem.W.isFn K (.ref f11)=true) (l11:K.lookup f11=some ⟨oc11,od11,.func (PySem.W.fnOf "dealing" "Exam.dealing" (zal s_40) (zai s_40) (zab s_40) .none kV11 dc11 pm11 an11 cd11 ct11),sl11⟩) (c11:PySem.W.codeIn K cd11 "Exam.dealing" = true) (k11:PySem.W.keepIn K (.ref f11)=true)
  (a12:PySem.W.nsIn K mainGlobals "told_against" = some (some (.ref f12))) (l12:K.lookup f12=some ⟨oc12,od12,.func (PySem.W.fnOf "told_against" "told_against" (zal s_59) (zai s_59) (zab s_59) .none kV12 dc12 pm12 an12 cd12 ct12),sl12⟩) (c12:PySem.W.codeIn K cd12 "told_against" = true) (k12:PySem.W.keepIn K (.ref f12)=true)
  (a13:PySem.W.nsIn K mainGlobals "greatest_of" = some (some (.ref f13))) (l13:K.lookup f13=some ⟨oc13,od13,.func (PySem.W.fnOf "greatest_of" "greatest_of" (zal s_4) (zai s_4) (zab s_4) .none kV13 dc13 pm13 an13 cd13 ct13),sl13⟩) (c13:PySem.W.codeIn K cd13 "greatest_of" = true) (k13:PySem.W.keepIn K (.ref f13)=true)
  (a14:PySem.W.nsIn K mainGlobals "sets_one_larger" = some (some (.ref f14))) (l14:K.lookup f14=some ⟨oc14,od14,.func (PySem.W.fnOf "sets_one_larger" "sets_one_larger" (zal s_3) (zai s_3) (zab s_3) .none kV14 dc14 pm14 an14 cd14 ct14),sl14⟩) (c14:PySem.W.codeIn K cd14 "sets_one_larger" = true) (k14:PySem.W.keepIn K (.ref f14)=true)
  (a15:PySem.W.nsIn K mainGlobals "sets_of" = some (some (.ref f15))) (l15:K.lookup f15=some ⟨oc15,od15,.func (PySem.W.fnOf "sets_of" "sets_of" (zal s_2) (zai s_2) (zab s_2) .none kV15 dc15 pm15 an15 cd15 ct15),sl15⟩) (c15:PySem.W.codeIn K cd15 "sets_of" = true) (k15:PySem.W.keepIn K (.ref f15)=true)
  (a16:PySem.W.nsIn K mainGlobals "may_read" = some (some (.ref f16))) (l16:K.lookup f16=some ⟨oc16,od16,.func (PySem.W.fnOf "may_read" "may_read" (zal s_0) (zai s_0) (zab s_0) .none kV16 dc16 pm16 an16 cd16 ct16),sl16⟩) (c16:PySem.W.codeIn K cd16 "may_read" = true) (k16:PySem.W.keepIn K (.ref f16)=true)
  (a17:PySem.W.nsIn K mainGlobals "room_of" = some (some (.ref f17))) (l17:K.lookup f17=some ⟨oc17,od17,.func (PySem.W.fnOf "room_of" "room_of" (zal s_6) (zai s_6) (zab s_6) .none kV17 dc17 pm17 an17 cd17 ct17),sl17⟩) (c17:PySem.W.codeIn K cd17 "room_of" = true) (k17:PySem.W.keepIn K (.ref f17)=true)
  (a18:PySem.W.nsIn K mainGlobals "room" = some (some (.ref f18))) (l18:K.lookup f18=some ⟨oc18,od18,.func (PySem.W.fnOf "room" "room" (zal s_5) (zai s_5) (zab s_5) .none kV18 dc18 pm18 an18 cd18 ct18),sl18⟩) (c18:PySem.W.codeIn K cd18 "room" = true) (k18:PySem.W.keepIn K (.ref f18)=true)
  (a19:PySem.W.nsIn K mainGlobals "is_against" = some (some (.ref f19))) (l19:K.lookup f19=some ⟨oc19,od19,.func (PySem.W.fnOf "is_against" "is_against" (zal s_7) (zai s_7) (zab s_7) .none kV19 dc19 pm19 an19 cd19 ct19),sl19⟩) (c19:PySem.W.codeIn K cd19 "is_against" = true) (k19:PySem.W.keepIn K (.ref f19)=true)
  (a20:PySem.W.nsIn K mainGlobals "first_against" = some (some (.ref f20))) (l20:K.lookup f20=some ⟨oc20,od20,.func (PySem.W.fnOf "first_against" "first_against" (zal s_8) (zai s_8) (zab s_8) .none kV20 dc20 pm20 an20 cd20 ct20),sl20⟩) (c20:PySem.W.codeIn K cd20 "first_against" = true) (k20:PySem.W.keepIn K (.ref f20)=true)
  (a21:PySem.W.findIn K (.ref C_Exam) "against" = some (some (.ref f21))) (i21:PySem.W.isFn K (.ref f21)=true) (l21:K.lookup f21=some ⟨oc21,od21,.func (PySem.W.fnOf "against" "Exam.against" (zal s_41) (zai s_41) (zab s_41) .none kV21 dc21 pm21 an21 cd21 ct21),sl21⟩) (c21:PySem.W.codeIn K cd21 "Exam.against" = true) (k21:PySem.W.keepIn K (.ref f21)=true)
  (a22:PySem.W.findIn K (.ref C_Exam) "due_readers" = some (some (.ref f22))) (i22:PySem.W.isFn K (.ref f22)=true) (l22:K.lookup f22=some ⟨oc22,od22,.func (PySem.W.fnOf "due_readers" "Exam.due_readers" (zal s_48) (zai s_48) (zab s_48) .none kV22 dc22 pm22 an22 cd22 ct22),sl22⟩) (c22:PySem.W.codeIn K cd22 "Exam.due_readers" = true) (k22:PySem.W.keepIn K (.ref f22)=true)
  (a23:PySem.W.findIn K (.ref C_Exam) "due" = some (some (.ref f23))) (i23:PySem.W.isFn K (.ref f23)=true) (l23:K.lookup f23=some ⟨oc23,od23,.func (PySem.W.fnOf "due" "Exam.due" (zal s_42) (zai s_42) (zab s_42) .none kV23 dc23 pm23 an23 cd23 ct23),sl23⟩) (c23:PySem.W.codeIn K cd23 "Exam.due" = true) (k23:PySem.W.keepIn K (.ref f23)=true)
  (a24:PySem.W.nsIn K mainGlobals "due_part" = some (some (.ref f24))) (l24:K.lookup f24=some ⟨oc24,od24,.func (PySem.W.fnOf "due_part" "due_part" (zal s_62) (zai s_62) (zab s_62) .none kV24 dc24 pm24 an24 cd24 ct24),sl24⟩) (c24:PySem.W.codeIn K cd24 "due_part" = true) (k24:PySem.W.keepIn K (.ref f24)=true)
  (a25:PySem.W.findIn K (.ref C_Exam) "mark_for" = some (some (.ref f25))) (i25:PySem.W.isFn K (.ref f25)=true) (l25:K.lookup f25=some ⟨oc25,od25,.func (PySem.W.fnOf "mark_for" "Exam.mark_for" (zal s_50) (zai s_50) (zab s_50) .none kV25 dc25 pm25 an25 cd25 ct25),sl25⟩) (c25:PySem.W.codeIn K cd25 "Exam.mark_for" = true) (k25:PySem.W.keepIn K (.ref f25)=true)
  (a26:PySem.W.findIn K (.ref C_Exam) "marks" = some (some (.ref f26))) (i26:PySem.W.isFn K (.ref f26)=true) (l26:K.lookup f26=some ⟨oc26,od26,.func (PySem.W.fnOf "marks" "Exam.marks" (zal s_43) (zai s_43) (zab s_43) .none kV26 dc26 pm26 an26 cd26 ct26),sl26⟩) (c26:PySem.W.codeIn K cd26 "Exam.marks" = true) (k26:PySem.W.keepIn K (.ref f26)=true)
  (a27:PySem.W.nsIn K mainGlobals "reading_part" = some (some (.ref f27))) (l27:K.lookup f27=some ⟨oc27,od27,.func (PySem.W.fnOf "reading_part" "reading_part" (zal s_64) (zai s_64) (zab s_64) .none kV27 dc27 pm27 an27 cd27 ct27),sl27⟩) (c27:PySem.W.codeIn K cd27 "reading_part" = true) (k27:PySem.W.keepIn K (.ref f27)=true)
  (a28:PySem.W.nsIn K mainGlobals "mark_part" = some (some (.ref f28))) (l28:K.lookup f28=some ⟨oc28,od28,.func (PySem.W.fnOf "mark_part" "mark_part" (zal s_63) (zai s_63) (zab s_63) .none kV28 dc28 pm28 an28 cd28 ct28),sl28⟩) (c28:PySem.W.codeIn K cd28 "mark_part" = true) (k28:PySem.W.keepIn K (.ref f28)=true)
  (a29:PySem.W.nsIn K mainGlobals "times_in" = some (some (.ref f29))) (l29:K.lookup f29=some ⟨oc29,od29,.func (PySem.W.fnOf "times_in" "times_in" (zal s_15) (zai s_15) (zab s_15) .none kV29 dc29 pm29 an29 cd29 ct29),sl29⟩) (c29:PySem.W.codeIn K cd29 "times_in" = true) (k29:PySem.W.keepIn K (.ref f29)=true)
  (a30:PySem.W.nsIn K mainGlobals "left_after" = some (some (.ref f30))) (l30:K.lookup f30=some ⟨oc30,od30,.func (PySem.W.fnOf "left_after" "left_after" (zal s_14) (zai s_14) (zab s_14) .none kV30 dc30 pm30 an30 cd30 ct30),sl30⟩) (c30:PySem.W.codeIn K cd30 "left_after" = true) (k30:PySem.W.keepIn K (.ref f30)=true)
  (a31:PySem.W.findIn K (.ref C_Exam) "left" = some (some (.ref f31))) (i31:PySem.W.isFn K (.ref f31)=true) (l31:K.lookup f31=some ⟨oc31,od31,.func (PySem.W.fnOf "left" "Exam.left" (zal s_44) (zai s_44) (zab s_44) .none kV31 dc31 pm31 an31 cd31 ct31),sl31⟩) (c31:PySem.W.codeIn K cd31 "Exam.left" = true) (k31:PySem.W.keepIn K (.ref f31)=true)
  (a32:PySem.W.nsIn K mainGlobals "told_of" = some (some (.ref f32))) (l32:K.lookup f32=some ⟨oc32,od32,.func (PySem.W.fnOf "told_of" "told_of" (zal s_57) (zai s_57) (zab s_57) .none kV32 dc32 pm32 an32 cd32 ct32),sl32⟩) (c32:PySem.W.codeIn K cd32 "told_of" = true) (k32:PySem.W.keepIn K (.ref f32)=true)
  (a33:PySem.W.findIn K (.ref C_Exam) "refuse_behind_dealing" = some (some (.ref f33))) (i33:PySem.W.isFn K (.ref f33)=true) (l33:K.lookup f33=some ⟨oc33,od33,.func (PySem.W.fnOf "refuse_behind_dealing" "Exam.refuse_behind_dealing" (zal s_45) (zai s_45) (zab s_45) .none kV33 dc33 pm33 an33 cd33 ct33),sl33⟩) (c33:PySem.W.codeIn K cd33 "Exam.refuse_behind_dealing" = true) (k33:PySem.W.keepIn K (.ref f33)=true)
  (a34:PySem.W.nsIn K mainGlobals "refuse_unknown" = some (some (.ref f34))) (l34:K.lookup f34=some ⟨oc34,od34,.func (PySem.W.fnOf "refuse_unknown" "refuse_unknown" (zal s_26) (zai s_26) (zab s_26) .none kV34 dc34 pm34 an34 cd34 ct34),sl34⟩) (c34:PySem.W.codeIn K cd34 "refuse_unknown" = true) (k34:PySem.W.keepIn K (.ref f34)=true)
  (a35:PySem.W.nsIn K mainGlobals "refuse_full" = some (some (.ref f35))) (l35:K.lookup f35=some ⟨oc35,od35,.func (PySem.W.fnOf "refuse_full" "refuse_full" (zal s_28) (zai s_28) (zab s_28) .none kV35 dc35 pm35 an35 cd35 ct35),sl35⟩) (c35:PySem.W.codeIn K cd35 "refuse_full" = true) (k35:PySem.W.keepIn K (.ref f35)=true)
  (a36:PySem.W.findIn K (.ref C_Exam) "bring_paper" = some (some (.ref f36))) (i36:PySem.W.isFn K (.ref f36)=true) (l36:K.lookup f36=some ⟨oc36,od36,.func (PySem.W.fnOf "bring_paper" "Exam.bring_paper" (zal s_31) (zai s_31) (zab s_31) .none kV36 dc36 pm36 an36 cd36 ct36),sl36⟩) (c36:PySem.W.codeIn K cd36 "Exam.bring_paper" = true) (k36:PySem.W.keepIn K (.ref f36)=true)
  (a37:PySem.W.nsIn K mainGlobals "refuse_out_of_bounds" = some (some (.ref f37))) (l37:K.lookup f37=some ⟨oc37,od37,.func (PySem.W.fnOf "refuse_out_of_bounds" "refuse_out_of_bounds" (zal s_27) (zai s_27) (zab s_27) .none kV37 dc37 pm37 an37 cd37 ct37),sl37⟩) (c37:PySem.W.codeIn K cd37 "refuse_out_of_bounds" = true) (k37:PySem.W.keepIn K (.ref f37)=true)
  (a38:PySem.W.findIn K (.ref C_Exam) "bring_reader" = some (some (.ref f38))) (i38:PySem.W.isFn K (.ref f38)=true) (l38:K.lookup f38=some ⟨oc38,od38,.func (PySem.W.fnOf "bring_reader" "Exam.bring_reader" (zal s_32) (zai s_32) (zab s_32) .none kV38 dc38 pm38 an38 cd38 ct38),sl38⟩) (c38:PySem.W.codeIn K cd38 "Exam.bring_reader" = true) (k38:PySem.W.keepIn K (.ref f38)=true)
  (a39:PySem.W.findIn K (.ref C_Exam) "set_step" = some (some (.ref f39))) (i39:PySem.W.isFn K (.ref f39)=true) (l39:K.lookup f39=some ⟨oc39,od39,.func (PySem.W.fnOf "set_step" "Exam.set_step" (zal s_33) (zai s_33) (zab s_33) .none kV39 dc39 pm39 an39 cd39 ct39),sl39⟩) (c39:PySem.W.codeIn K cd39 "Exam.set_step" = true) (k39:PySem.W.keepIn K (.ref f39)=true)
  (a40:PySem.W.findIn K (.ref C_Exam) "refuse_ahead_of_dealing" = some (some (.ref f40))) (i40:PySem.W.isFn K (.ref f40)=true) (l40:K.lookup f40=some ⟨oc40,od40,.func (PySem.W.fnOf "refuse_ahead_of_dealing" "Exam.refuse_ahead_of_dealing" (zal s_46) (zai s_46) (zab s_46) .none kV40 dc40 pm40 an40 cd40 ct40),sl40⟩) (c40:PySem.W.codeIn K cd40 "Exam.refuse_ahead_of_dealing" = true) (k40:PySem.W.keepIn K (.ref f40)=true)
  (a41:PySem.W.findIn K (.ref C_Exam) "refuse_not_due" = some (some (.ref f41))) (i41:PySem.W.isFn K (.ref f41)=true) (l41:K.lookup f41=some ⟨oc41,od41,.func (PySem.W.fnOf "refuse_not_due" "Exam.refuse_not_due" (zal s_47) (zai s_47) (zab s_47) .none kV41 dc41 pm41 an41 cd41 ct41),sl41⟩) (c41:PySem.W.codeIn K cd41 "Exam.refuse_not_due" = true) (k41:PySem.W.keepIn K (.ref f41)=true)
  (a42:PySem.W.findIn K (.ref C_Exam) "name_third" = some (some (.ref f42))) (i42:PySem.W.isFn K (.ref f42)=true) (l42:K.lookup f42=some ⟨oc42,od42,.func (PySem.W.fnOf "name_third" "Exam.name_third" (zal s_51) (zai s_51) (zab s_51) .none kV42 dc42 pm42 an42 cd42 ct42),sl42⟩) (c42:PySem.W.codeIn K cd42 "Exam.name_third" = true) (k42:PySem.W.keepIn K (.ref f42)=true)
  (a43:PySem.W.findIn K (.ref C_Exam) "enter" = some (some (.ref f43))) (i43:PySem.W.isFn K (.ref f43)=true) (l43:K.lookup f43=some ⟨oc43,od43,.func (PySem.W.fnOf "enter" "Exam.enter" (zal s_35) (zai s_35) (zab s_35) .none kV43 dc43 pm43 an43 cd43 ct43),sl43⟩) (c43:PySem.W.codeIn K cd43 "Exam.enter" = true) (k43:PySem.W.keepIn K (.ref f43)=true)
  (a44:PySem.W.nsIn K mainGlobals "pairs_of" = some (some (.ref f44))) (l44:K.lookup f44=some ⟨oc44,od44,.func (PySem.W.fnOf "pairs_of" "pairs_of" (zal s_18) (zai s_18) (zab s_18) .none kV44 dc44 pm44 an44 cd44 ct44),sl44⟩) (c44:PySem.W.codeIn K cd44 "pairs_of" = true) (k44:PySem.W.keepIn K (.ref f44)=true)
  (a45:PySem.W.nsIn K mainGlobals "readers_for" = some (some (.ref f45))) (l45:K.lookup f45=some ⟨oc45,od45,.func (PySem.W.fnOf "readers_for" "readers_for" (zal s_1) (zai s_1) (zab s_1) .none kV45 dc45 pm45 an45 cd45 ct45),sl45⟩) (c45:PySem.W.codeIn K cd45 "readers_for" = true) (k45:PySem.W.keepIn K (.ref f45)=true)
  (a46:PySem.W.nsIn K mainGlobals "can_go_on" = some (some (.ref f46))) (l46:K.lookup f46=some ⟨oc46,od46,.func (PySem.W.fnOf "can_go_on" "can_go_on" (zal s_19) (zai s_19) (zab s_19) .none kV46 dc46 pm46 an46 cd46 ct46),sl46⟩) (c46:PySem.W.codeIn K cd46 "can_go_on" = true) (k46:PySem.W.keepIn K (.ref f46)=true)
  (a47:PySem.W.nsIn K mainGlobals "first_row_behind" = some (some (.ref f47))) (l47:K.lookup f47=some ⟨oc47,od47,.func (PySem.W.fnOf "first_row_behind" "first_row_behind" (zal s_17) (zai s_17) (zab s_17) .none kV47 dc47 pm47 an47 cd47 ct47),sl47⟩) (c47:PySem.W.codeIn K cd47 "first_row_behind" = true) (k47:PySem.W.keepIn K (.ref f47)=true)
  (a48:PySem.W.nsIn K mainGlobals "first_dealing" = some (some (.ref f48))) (l48:K.lookup f48=some ⟨oc48,od48,.func (PySem.W.fnOf "first_dealing" "first_dealing" (zal s_16) (zai s_16) (zab s_16) .none kV48 dc48 pm48 an48 cd48 ct48),sl48⟩) (c48:PySem.W.codeIn K cd48 "first_dealing" = true) (k48:PySem.W.keepIn K (.ref f48)=true)
  (a49:PySem.W.findIn K (.ref C_Exam) "deal" = some (some (.ref f49))) (i49:PySem.W.isFn K (.ref f49)=true) (l49:K.lookup f49=some ⟨oc49,od49,.func (PySem.W.fnOf "deal" "Exam.deal" (zal s_34) (zai s_34) (zab s_34) .none kV49 dc49 pm49 an49 cd49 ct49),sl49⟩) (c49:PySem.W.codeIn K cd49 "Exam.deal" = true) (k49:PySem.W.keepIn K (.ref f49)=true)
  (a50:PySem.W.nsIn K mainGlobals "done" = some (some (.ref f50))) (l50:K.lookup f50=some ⟨oc50,od50,.func (PySem.W.fnOf "done" "done" (zal s_56) (zai s_56) (zab s_56) .none kV50 dc50 pm50 an50 cd50 ct50),sl50⟩) (c50:PySem.W.codeIn K cd50 "done" = true) (k50:PySem.W.keepIn K (.ref f50)=true)
  (a51:PySem.W.nsIn K mainGlobals "done_or_refused" = some (some (.ref f51))) (l51:K.lookup f51=some ⟨oc51,od51,.func (PySem.W.fnOf "done_or_refused" "done_or_refused" (zal s_55) (zai s_55) (zab s_55) .none kV51 dc51 pm51 an51 cd51 ct51),sl51⟩) (c51:PySem.W.codeIn K cd51 "done_or_refused" = true) (k51:PySem.W.keepIn K (.ref f51)=true)
  (a52:PySem.W.nsIn K mainGlobals "answer_to" = some (some (.ref f52))) (l52:K.lookup f52=some ⟨oc52,od52,.func (PySem.W.fnOf "answer_to" "answer_to" (zal s_54) (zai s_54) (zab s_54) .none kV52 dc52 pm52 an52 cd52 ct52),sl52⟩) (c52:PySem.W.codeIn K cd52 "answer_to" = true) (k52:PySem.W.keepIn K (.ref f52)=true)
  (a53:PySem.W.nsIn K mainGlobals "answers" = some (some (.ref f53))) (l53:K.lookup f53=some ⟨oc53,od53,.func (PySem.W.fnOf "answers" "answers" (zal s_53) (zai s_53) (zab s_53) .none kV53 dc53 pm53 an53 cd53 ct53),sl53⟩) (c53:PySem.W.codeIn K cd53 "answers" = true) (k53:PySem.W.keepIn K (.ref f53)=true)
  (a54:PySem.W.nsIn K mainGlobals "law" = some (some (.ref f54))) (l54:K.lookup f54=some ⟨oc54,od54,.func (PySem.W.fnOf "law" "law" (zal s_72) (zai s_72) (zab s_72) .none kV54 dc54 pm54 an54 cd54 ct54),sl54⟩) (c54:PySem.W.codeIn K cd54 "law" = true) (k54:PySem.W.keepIn K (.ref f54)=true)
  (z_abs:PySem.W.nsIn K mainGlobals "abs" = some none)
  (z_all:PySem.W.nsIn K mainGlobals "all" = some none)
  (z_enumerate:PySem.W.nsIn K mainGlobals "enumerate" = some none)
  (z_int:PySem.W.nsIn K mainGlobals "int" = some none)
  (z_isinstance:PySem.W.nsIn K mainGlobals "isinstance" = some none)
  (z_len:PySem.W.nsIn K mainGlobals "len" = some none)
  (z_list:PySem.W.nsIn K mainGlobals "list" = some none)
  (z_max:PySem.W.nsIn K mainGlobals "max" = some none)
  (z_min:PySem.W.nsIn K mainGlobals "min" = some none)
  (z_range:PySem.W.nsIn K mainGlobals "range" = some none)
  (z_sorted:PySem.W.nsIn K mainGlobals "sorted" = some none)
  (z_str:PySem.W.nsIn K mainGlobals "str" = some none)
  (z_sum:PySem.W.nsIn K mainGlobals "sum" = some none)
  (z_zip:PySem.W.nsIn K mainGlobals "zip" = some none)
  (pg_Exam:PySem.W.plainGet K C_Exam Str.empty=true) (hd_Exam:PySem.W.hasDictIn K C_Exam=true) (po_Exam:PySem.W.plainOver K C_Exam=true) (sa_Exam:PySem.W.findIn K (.ref C_Exam) "__setattr__" = some (some (.builtin "object.__setattr__"))) (mk_Exam:PySem.W.makesIn K C_Exam=true) (kc_Exam:PySem.W.keepIn K (.ref C_Exam)=true)
  (n_Exam_paper_houses:PySem.W.findIn K (.ref C_Exam) "paper_houses" = some none)
  (n_Exam_reader_rows:PySem.W.findIn K (.ref C_Exam) "reader_rows" = some none)
  (n_Exam_widest_step:PySem.W.findIn K (.ref C_Exam) "widest_step" = some none)
  (n_Exam_is_dealt:PySem.W.findIn K (.ref C_Exam) "is_dealt" = some none)
  (n_Exam_named_readers:PySem.W.findIn K (.ref C_Exam) "named_readers" = some none)
  (n_Exam_entered_points:PySem.W.findIn K (.ref C_Exam) "entered_points" = some none)
  (v_READERS_EACH:PySem.W.nsIn K mainGlobals "READERS_EACH" = some (some (.int 2 tk_READERS_EACH)))
  (v_MOST_HOUSES:PySem.W.nsIn K mainGlobals "MOST_HOUSES" = some (some (.int 6 tk_MOST_HOUSES)))
  (v_MOST_PAPERS:PySem.W.nsIn K mainGlobals "MOST_PAPERS" = some (some (.int 10 tk_MOST_PAPERS)))
  (v_MOST_LIMIT:PySem.W.nsIn K mainGlobals "MOST_LIMIT" = some (some (.int 30 tk_MOST_LIMIT)))
  (v_MOST_READERS:PySem.W.nsIn K mainGlobals "MOST_READERS" = some (some (.int 8 tk_MOST_READERS)))
  (v_MOST_STEP:PySem.W.nsIn K mainGlobals "MOST_STEP" = some (some (.int 100 tk_MOST_STEP)))
  (v_MOST_POINTS:PySem.W.nsIn K mainGlobals "MOST_POINTS" = some (some (.int 100 tk_MOST_POINTS)))
  (v_QUESTIONS:PySem.W.nsIn K mainGlobals "QUESTIONS" = some (some (.ref q_QUESTIONS))) (lq_QUESTIONS:K.lookup q_QUESTIONS=some ⟨.type "tuple",qd_QUESTIONS,.seq #[.str "dealing" qt_QUESTIONS_0,.str "against" qt_QUESTIONS_1,.str "due" qt_QUESTIONS_2,.str "marks" qt_QUESTIONS_3,.str "left" qt_QUESTIONS_4] qn_QUESTIONS,qs_QUESTIONS⟩)
  (mx_OutOfTime:PySem.W.nsIn K mainGlobals "OutOfTime" = some (some (.ref X_OutOfTime)))
  (mx_UnknownNumber:PySem.W.nsIn K mainGlobals "UnknownNumber" = some (some (.ref X_UnknownNumber)))
  (mx_NotDue:PySem.W.nsIn K mainGlobals "NotDue" = some (some (.ref X_NotDue)))
  (mx_OutOfBounds:PySem.W.nsIn K mainGlobals "OutOfBounds" = some (some (.ref X_OutOfBounds)))
  (mx_Full:PySem.W.nsIn K mainGlobals "Full" = some (some (.ref X_Full)))
  (mx_ReadError:PySem.W.nsIn K mainGlobals "ReadError" = some (some (.ref X_ReadError)))
  (xc_OutOfTime:PySem.W.excIn K X_OutOfTime [.type "ValueError",.type "Exception",.type "BaseException",.type "object"] "ValueError.__new__" = true)
  (xc_UnknownNumber:PySem.W.excIn K X_UnknownNumber [.type "ValueError",.type "Exception",.type "BaseException",.type "object"] "ValueError.__new__" = true)
  (xc_OutOfBounds:PySem.W.excIn K X_OutOfBounds [.type "ValueError",.type "Exception",.type "BaseException",.type "object"] "ValueError.__new__" = true)
  (xc_Full:PySem.W.excIn K X_Full [.type "ValueError",.type "Exception",.type "BaseException",.type "object"] "ValueError.__new__" = true)
  (x_OutOfTime_OutOfTime:PySem.W.exmOne K (.ref X_OutOfTime) (.ref X_OutOfTime)=some true)
  (x_OutOfTime_UnknownNumber:PySem.W.exmOne K (.ref X_OutOfTime) (.ref X_UnknownNumber)=some false)
  (x_OutOfTime_NotDue:PySem.W.exmOne K (.ref X_OutOfTime) (.ref X_NotDue)=some false)
  (x_OutOfTime_OutOfBounds:PySem.W.exmOne K (.ref X_OutOfTime) (.ref X_OutOfBounds)=some false)
  (x_OutOfTime_Full:PySem.W.exmOne K (.ref X_OutOfTime) (.ref X_Full)=some false)
  (x_UnknownNumber_OutOfTime:PySem.W.exmOne K (.ref X_UnknownNumber) (.ref X_OutOfTime)=some false)
  (x_UnknownNumber_UnknownNumber:PySem.W.exmOne K (.ref X_UnknownNumber) (.ref X_UnknownNumber)=some true)
  (x_UnknownNumber_NotDue:PySem.W.exmOne K (.ref X_UnknownNumber) (.ref X_NotDue)=some false)
  (x_UnknownNumber_OutOfBounds:PySem.W.exmOne K (.ref X_UnknownNumber) (.ref X_OutOfBounds)=some false)
  (x_UnknownNumber_Full:PySem.W.exmOne K (.ref X_UnknownNumber) (.ref X_Full)=some false)
  (x_OutOfBounds_OutOfTime:PySem.W.exmOne K (.ref X_OutOfBounds) (.ref X_OutOfTime)=some false)
  (x_OutOfBounds_UnknownNumber:PySem.W.exmOne K (.ref X_OutOfBounds) (.ref X_UnknownNumber)=some false)
  (x_OutOfBounds_NotDue:PySem.W.exmOne K (.ref X_OutOfBounds) (.ref X_NotDue)=some false)
  (x_OutOfBounds_OutOfBounds:PySem.W.exmOne K (.ref X_OutOfBounds) (.ref X_OutOfBounds)=some true)
  (x_OutOfBounds_Full:PySem.W.exmOne K (.ref X_OutOfBounds) (.ref X_Full)=some false)
  (x_Full_OutOfTime:PySem.W.exmOne K (.ref X_Full) (.ref X_OutOfTime)=some false)
  (x_Full_UnknownNumber:PySem.W.exmOne K (.ref X_Full) (.ref X_UnknownNumber)=some false)
  (x_Full_NotDue:PySem.W.exmOne K (.ref X_Full) (.ref X_NotDue)=some false)
  (x_Full_OutOfBounds:PySem.W.exmOne K (.ref X_Full) (.ref X_OutOfBounds)=some false)
  (x_Full_Full:PySem.W.exmOne K (.ref X_Full) (.ref X_Full)=some true)
  : ∃ fd:FuncData,(∀ (s:Shared) (v:Value),BindsTo s fd ⟨[v],[]⟩ [("_law_script",v)])∧∀ base:Heap,K.In base→base.Ns mainGlobals mg→FnOk l.prog w K mg base CX0 10 fa fd ["_law_script"] (zfG K):=by
 have e:=hfa.symm.trans (PySem.W.mg_of X G a54)
 cases e
 have F0:=zaw (st:=s_65) l0 c0 k0;have F1:=zaw (st:=s_70) l1 c1 k1;have F2:=zaw (st:=s_66) l2 c2 k2;have F3:=zaw (st:=s_67) l3 c3 k3;have F4:=zaw (st:=s_69) l4 c4 k4;have F5:=zaw (st:=s_71) l5 c5 k5;have F6:=zaw (st:=s_68) l6 c6 k6;have F7:=zaw (st:=s_30) l7 c7 k7;have F8:=zaw (st:=s_60) l8 c8 k8;have F9:=zaw (st:=s_61) l9 c9 k9;have F10:=zaw (st:=s_58) l10 c10 k10;have F11:=zaw (st:=s_40) l11 c11 k11;have F12:=zaw (st:=s_59) l12 c12 k12;have F13:=zaw (st:=s_4) l13 c13 k13;have F14:=zaw (st:=s_3) l14 c14 k14;have F15:=zaw (st:=s_2) l15 c15 k15;have F16:=zaw (st:=s_0) l16 c16 k16;have F17:=zaw (st:=s_6) l17 c17 k17;have F18:=zaw (st:=s_5) l18 c18 k18;have F19:=zaw (st:=s_7) l19 c19 k19;have F20:=zaw (st:=s_8) l20 c20 k20;have F21:=zaw (st:=s_41) l21 c21 k21;have F22:=zaw (st:=s_48) l22 c22 k22;have F23:=zaw (st:=s_42) l23 c23 k23;have F24:=zaw (st:=s_62) l24 c24 k24;have F25:=zaw (st:=s_50) l25 c25 k25;have F26:=zaw (st:=s_43) l26 c26 k26;have F27:=zaw (st:=s_64) l27 c27 k27;have F28:=zaw (st:=s_63) l28 c28 k28;have F29:=zaw (st:=s_15) l29 c29 k29;have F30:=zaw (st:=s_14) l30 c30 k30;have F31:=zaw (st:=s_44) l31 c31 k31;have F32:=zaw (st:=s_57) l32 c32 k32;have F33:=zaw (st:=s_45) l33 c33 k33;have F34:=zaw (st:=s_26) l34 c34 k34;have F35:=zaw (st:=s_28) l35 c35 k35;have F36:=zaw (st:=s_31) l36 c36 k36;have F37:=zaw (st:=s_27) l37 c37 k37;have F38:=zaw (st:=s_32) l38 c38 k38;have F39:=zaw (st:=s_33) l39 c39 k39;have F40:=zaw (st:=s_46) l40 c40 k40;have F41:=zaw (st:=s_47) l41 c41 k41;have F42:=zaw (st:=s_51) l42 c42 k42;have F43:=zaw (st:=s_35) l43 c43 k43;have F44:=zaw (st:=s_18) l44 c44 k44;have F45:=zaw (st:=s_1) l45 c45 k45;have F46:=zaw (st:=s_19) l46 c46 k46;have F47:=zaw (st:=s_17) l47 c47 k47;have F48:=zaw (st:=s_16) l48 c48 k48;have F49:=zaw (st:=s_34) l49 c49 k49;have F50:=zaw (st:=s_56) l50 c50 k50;have F51:=zaw (st:=s_55) l51 c51 k51;have F52:=zaw (st:=s_54) l52 c52 k52;have F53:=zaw (st:=s_53) l53 c53 k53;have F54:=zaw (st:=s_72) l54 c54 k54;have T:Txt K mg ⟨_,_,_,_,_,_,_,_,_,_,_,_,_,_,_,_,_,_,_,_,_,_,_,_,_,_,_,_,_,_,_,_,_,_,_,_,_,_,_,_,_,_,_,_,_,_,_,_,_,_,_,_,_,_,_,_,_,_,_,_,_,_,_,_,_,_,_,_,_,_,_,_,_,_,_,_,_,_,_,_,_,_,_,_,_,_,_,_,_,_,_,_,_,_,_,_,_,_,_,_,_,_,_,_,_,_,_,_,_,_,_,_,_,_,_,_,_,_,_,⟨X_OutOfTime,X_UnknownNumber,X_NotDue,X_OutOfBounds,X_Full,X_ReadError⟩⟩:=⟨F0,F0.binds (ps:=["_law_script","_law_k"]) (fun _ _ _ _ _ _ us hl=>match us,hl with | [_,_],_=>rfl),PySem.W.mg_of X G a0,F1,F1.binds (ps:=["_law_dealt"]) (fun _ _ _ _ _ _ us hl=>match us,hl with | [_],_=>rfl),PySem.W.mg_of X G a1,F2,F2.binds (ps:=["_law_cell","_law_least","_law_most"]) (fun _ _ _ _ _ _ us hl=>match us,hl with | [_,_,_],_=>rfl),PySem.W.mg_of X G a2,F3,F3.binds (ps:=["_law_dealt","_law_many","_law_count","_law_todo"]) (fun _ _ _ _ _ _ us hl=>match us,hl with | [_,_,_,_],_=>rfl),PySem.W.mg_of X G a3,F4,F4.binds (ps:=["_law_cell","_law_more","_law_homes","_law_staff","_law_dealt"]) (fun _ _ _ _ _ _ us hl=>match us,hl with | [_,_,_,_,_],_=>rfl),PySem.W.mg_of X G a4,F5,F5.binds (ps:=["_law_homes","_law_dealt"]) (fun _ _ _ _ _ _ us hl=>match us,hl with | [_,_],_=>rfl),PySem.W.mg_of X G a5,F6,F6.binds (ps:=["_law_kind","_law_homes","_law_staff","_law_dealt"]) (fun _ _ _ _ _ _ us hl=>match us,hl with | [_,_,_,_],_=>rfl),PySem.W.mg_of X G a6,F7,F7.binds (ps:=["self"]) (fun _ _ _ _ _ _ us hl=>match us,hl with | [_],_=>rfl),⟨mk_Exam,a7,i7,kc_Exam⟩,F8,F8.binds (ps:=["parts"]) (fun _ _ _ _ _ _ us hl=>match us,hl with | [_],_=>rfl),PySem.W.mg_of X G a8,F9,F9.binds (ps:=["paper","first","second"]) (fun _ _ _ _ _ _ us hl=>match us,hl with | [_,_,_],_=>rfl),PySem.W.mg_of X G a9,F10,F10.binds (ps:=["rows"]) (fun _ _ _ _ _ _ us hl=>match us,hl with | [_],_=>rfl),PySem.W.mg_of X G a10,F11,F11.binds (ps:=["self"]) (fun _ _ _ _ _ _ us hl=>match us,hl with | [_],_=>rfl),⟨a11,i11,k11⟩,F12,F12.binds (ps:=["chosen"]) (fun _ _ _ _ _ _ us hl=>match us,hl with | [_],_=>rfl),PySem.W.mg_of X G a12,F13,F13.binds (ps:=["chosen"]) (fun _ _ _ _ _ _ us hl=>match us,hl with | [_],_=>rfl),PySem.W.mg_of X G a13,F14,F14.binds (ps:=["of_one_size","many"]) (fun _ _ _ _ _ _ us hl=>match us,hl with | [_,_],_=>rfl),PySem.W.mg_of X G a14,F15,F15.binds (ps:=["many"]) (fun _ _ _ _ _ _ us hl=>match us,hl with | [_],_=>rfl),PySem.W.mg_of X G a15,F16,F16.binds (ps:=["papers","readers","paper","reader"]) (fun _ _ _ _ _ _ us hl=>match us,hl with | [_,_,_,_],_=>rfl),PySem.W.mg_of X G a16,F17,F17.binds (ps:=["papers","readers","chosen","reader"]) (fun _ _ _ _ _ _ us hl=>match us,hl with | [_,_,_,_],_=>rfl),PySem.W.mg_of X G a17,F18,F18.binds (ps:=["papers","readers","chosen"]) (fun _ _ _ _ _ _ us hl=>match us,hl with | [_,_,_],_=>rfl),PySem.W.mg_of X G a18,F19,F19.binds (ps:=["papers","readers","chosen"]) (fun _ _ _ _ _ _ us hl=>match us,hl with | [_,_,_],_=>rfl),PySem.W.mg_of X G a19,F20,F20.binds (ps:=["papers","readers"]) (fun _ _ _ _ _ _ us hl=>match us,hl with | [_,_],_=>rfl),PySem.W.mg_of X G a20,F21,F21.binds (ps:=["self"]) (fun _ _ _ _ _ _ us hl=>match us,hl with | [_],_=>rfl),⟨a21,i21,k21⟩,F22,F22.binds (ps:=["self","paper"]) (fun _ _ _ _ _ _ us hl=>match us,hl with | [_,_],_=>rfl),⟨a22,i22,k22⟩,F23,F23.binds (ps:=["self"]) (fun _ _ _ _ _ _ us hl=>match us,hl with | [_],_=>rfl),⟨a23,i23,k23⟩,F24,F24.binds (ps:=["paper","reader"]) (fun _ _ _ _ _ _ us hl=>match us,hl with | [_,_],_=>rfl),PySem.W.mg_of X G a24,F25,F25.binds (ps:=["self","paper"]) (fun _ _ _ _ _ _ us hl=>match us,hl with | [_,_],_=>rfl),⟨a25,i25,k25⟩,F26,F26.binds (ps:=["self"]) (fun _ _ _ _ _ _ us hl=>match us,hl with | [_],_=>rfl),⟨a26,i26,k26⟩,F27,F27.binds (ps:=["reader","points"]) (fun _ _ _ _ _ _ us hl=>match us,hl with | [_,_],_=>rfl),PySem.W.mg_of X G a27,F28,F28.binds (ps:=["paper","mark"]) (fun _ _ _ _ _ _ us hl=>match us,hl with | [_,_],_=>rfl),PySem.W.mg_of X G a28,F29,F29.binds (ps:=["rows","reader"]) (fun _ _ _ _ _ _ us hl=>match us,hl with | [_,_],_=>rfl),PySem.W.mg_of X G a29,F30,F30.binds (ps:=["readers","rows"]) (fun _ _ _ _ _ _ us hl=>match us,hl with | [_,_],_=>rfl),PySem.W.mg_of X G a30,F31,F31.binds (ps:=["self"]) (fun _ _ _ _ _ _ us hl=>match us,hl with | [_],_=>rfl),⟨a31,i31,k31⟩,F32,F32.binds (ps:=["exam","question"]) (fun _ _ _ _ _ _ us hl=>match us,hl with | [_,_],_=>rfl),PySem.W.mg_of X G a32,F33,F33.binds (ps:=["self"]) (fun _ _ _ _ _ _ us hl=>match us,hl with | [_],_=>rfl),⟨a33,i33,k33⟩,F34,F34.binds (ps:=["number","least","most"]) (fun _ _ _ _ _ _ us hl=>match us,hl with | [_,_,_],_=>rfl),PySem.W.mg_of X G a34,F35,F35.binds (ps:=["many","most"]) (fun _ _ _ _ _ _ us hl=>match us,hl with | [_,_],_=>rfl),PySem.W.mg_of X G a35,F36,F36.binds (ps:=["self","house"]) (fun _ _ _ _ _ _ us hl=>match us,hl with | [_,_],_=>rfl),⟨a36,i36,k36⟩,F37,F37.binds (ps:=["number","most"]) (fun _ _ _ _ _ _ us hl=>match us,hl with | [_,_],_=>rfl),PySem.W.mg_of X G a37,F38,F38.binds (ps:=["self","house","limit"]) (fun _ _ _ _ _ _ us hl=>match us,hl with | [_,_,_],_=>rfl),⟨a38,i38,k38⟩,F39,F39.binds (ps:=["self","step"]) (fun _ _ _ _ _ _ us hl=>match us,hl with | [_,_],_=>rfl),⟨a39,i39,k39⟩,F40,F40.binds (ps:=["self"]) (fun _ _ _ _ _ _ us hl=>match us,hl with | [_],_=>rfl),⟨a40,i40,k40⟩,F41,F41.binds (ps:=["self","paper","reader"]) (fun _ _ _ _ _ _ us hl=>match us,hl with | [_,_,_],_=>rfl),⟨a41,i41,k41⟩,F42,F42.binds (ps:=["self","paper"]) (fun _ _ _ _ _ _ us hl=>match us,hl with | [_,_],_=>rfl),⟨a42,i42,k42⟩,F43,F43.binds (ps:=["self","paper","reader","points"]) (fun _ _ _ _ _ _ us hl=>match us,hl with | [_,_,_,_],_=>rfl),⟨a43,i43,k43⟩,F44,F44.binds (ps:=["numbers"]) (fun _ _ _ _ _ _ us hl=>match us,hl with | [_],_=>rfl),PySem.W.mg_of X G a44,F45,F45.binds (ps:=["papers","readers","paper"]) (fun _ _ _ _ _ _ us hl=>match us,hl with | [_,_,_],_=>rfl),PySem.W.mg_of X G a45,F46,F46.binds (ps:=["papers","readers","rows"]) (fun _ _ _ _ _ _ us hl=>match us,hl with | [_,_,_],_=>rfl),PySem.W.mg_of X G a46,F47,F47.binds (ps:=["papers","readers","rows"]) (fun _ _ _ _ _ _ us hl=>match us,hl with | [_,_,_],_=>rfl),PySem.W.mg_of X G a47,F48,F48.binds (ps:=["papers","readers"]) (fun _ _ _ _ _ _ us hl=>match us,hl with | [_,_],_=>rfl),PySem.W.mg_of X G a48,F49,F49.binds (ps:=["self"]) (fun _ _ _ _ _ _ us hl=>match us,hl with | [_],_=>rfl),⟨a49,i49,k49⟩,F50,F50.binds (ps:=["exam","deed","numbers"]) (fun _ _ _ _ _ _ us hl=>match us,hl with | [_,_,_],_=>rfl),PySem.W.mg_of X G a50,F51,F51.binds (ps:=["exam","deed","numbers"]) (fun _ _ _ _ _ _ us hl=>match us,hl with | [_,_,_],_=>rfl),PySem.W.mg_of X G a51,F52,F52.binds (ps:=["exam","row"]) (fun _ _ _ _ _ _ us hl=>match us,hl with | [_,_],_=>rfl),PySem.W.mg_of X G a52,F53,F53.binds (ps:=["rows"]) (fun _ _ _ _ _ _ us hl=>match us,hl with | [_],_=>rfl),PySem.W.mg_of X G a53,F54,F54.binds (ps:=["_law_script"]) (fun _ _ _ _ _ _ us hl=>match us,hl with | [_],_=>rfl),PySem.W.mg_of X G a54,⟨pg_Exam,hd_Exam,po_Exam,sa_Exam⟩,PySem.W.mg_of X G aC_Exam,n_Exam_paper_houses,n_Exam_reader_rows,n_Exam_widest_step,n_Exam_is_dealt,n_Exam_named_readers,n_Exam_entered_points,PySem.W.mg_of X G v_READERS_EACH,⟨_,rfl⟩,PySem.W.mg_of X G v_MOST_HOUSES,⟨_,rfl⟩,PySem.W.mg_of X G v_MOST_PAPERS,⟨_,rfl⟩,PySem.W.mg_of X G v_MOST_LIMIT,⟨_,rfl⟩,PySem.W.mg_of X G v_MOST_READERS,⟨_,rfl⟩,PySem.W.mg_of X G v_MOST_STEP,⟨_,rfl⟩,PySem.W.mg_of X G v_MOST_POINTS,⟨_,rfl⟩,PySem.W.mg_of X G v_QUESTIONS,fun H=>.inr ⟨_,_,_,lq_QUESTIONS,rfl,rfl,Nat.le_trans (Nat.le_of_ble_eq_true rfl:_≤1000) (by decide),.cons ⟨_,rfl⟩ (.cons ⟨_,rfl⟩ (.cons ⟨_,rfl⟩ (.cons ⟨_,rfl⟩ (.cons ⟨_,rfl⟩ (.nil)))))⟩,PySem.W.mg_of X G mx_OutOfTime,PySem.W.mg_of X G mx_UnknownNumber,PySem.W.mg_of X G mx_NotDue,PySem.W.mg_of X G mx_OutOfBounds,PySem.W.mg_of X G mx_Full,PySem.W.mg_of X G mx_ReadError,xc_OutOfTime,xc_UnknownNumber,xc_OutOfBounds,xc_Full,x_OutOfTime_OutOfTime,x_OutOfTime_UnknownNumber,x_OutOfTime_NotDue,x_OutOfTime_OutOfBounds,x_OutOfTime_Full,x_UnknownNumber_OutOfTime,x_UnknownNumber_UnknownNumber,x_UnknownNumber_NotDue,x_UnknownNumber_OutOfBounds,x_UnknownNumber_Full,x_OutOfBounds_OutOfTime,x_OutOfBounds_UnknownNumber,x_OutOfBounds_NotDue,x_OutOfBounds_OutOfBounds,x_OutOfBounds_Full,x_Full_OutOfTime,x_Full_UnknownNumber,x_Full_NotDue,x_Full_OutOfBounds,x_Full_Full,PySem.W.mg_none_of X G z_abs,PySem.W.mg_none_of X G z_all,PySem.W.mg_none_of X G z_enumerate,PySem.W.mg_none_of X G z_int,PySem.W.mg_none_of X G z_isinstance,PySem.W.mg_none_of X G z_len,PySem.W.mg_none_of X G z_list,PySem.W.mg_none_of X G z_max,PySem.W.mg_none_of X G z_min,PySem.W.mg_none_of X G z_range,PySem.W.mg_none_of X G z_sorted,PySem.W.mg_none_of X G z_str,PySem.W.mg_none_of X G z_sum,PySem.W.mg_none_of X G z_zip⟩;exact ⟨_,fun s v=>.of_eq rfl,fun base _ _=>zlv T⟩
theorem walk {l:PySem.W.OpenLaw} {q:Program} {loose:List Str} {XP:(Str→Option Value)→Heap→Prop} {YP:World→Heap→Prop} {d:DefRec} {K:Params→PySem.W.Frag} (hn:l.most=some 63) (hdf:d.params.defaults=[])
  (hY:∀ (w:World) (h:Heap),YP w h→(K w.params).In h)
  (F:∀ (w:World) (mg:Str→Option Value) (fa:Addr) (h:Heap),(K w.params).In h→h.Ns mainGlobals mg→mg d.name=some (.ref fa) →
   ∃ fd:FuncData,(∀ (s:Shared) (u:Value),BindsTo s fd ⟨[u],[]⟩ [("_law_script",u)])∧∀ base:Heap,(K w.params).In base→base.Ns mainGlobals mg→FnOk l.prog w (K w.params) mg base CX0 10 fa fd ["_law_script"] (zfG (K w.params))) :
  PySem.W.WalkO q loose XP YP l.row.toRowW d [] (fun f vs=>PySem.call f vs) :=
 L2.zjD (n:=63) (k:=10) (x:="_law_script") (CX:=fun _=>CX0) (sp:=fun w=>zfG (K w.params)) hn (by decide) hdf ⟨rfl,by decide,by decide⟩ hY F (fun _ H a ns hl hO hS=>law_start hl hS) fun _ _ _ _ _ z=>z
end Prf
set_option genInjectivity false in
set_option genSizeOf false in
structure PySem.W.Fast:Prop where
 (tw13454611012608605599 tw16435202414927883408 tw8650863050394316147 tw1646372695625098124 tw17288509239513981288 tw3781287263124008018 tw11002567324044731780 tw1306630720179814481 tw13248499818317360312 tw16283866095634289383 tw14645737591646351524 tw14183575735040432499 tw3061906067761751657 tw10092442231172759820 tw687246079027509945 tw765066045778354615 tw3397371219028736972 tw3381282553482729838 tw18420128865563298470 tw16394544115908211943 tw5502566198065114133 tw2640862779439539665 tw14213455116616989720 tw2775128428604068922 tw10893754965727795242 tw16744041873210013888 tw10932973493653123105 tw2242394769638855555 tw7234563721336357838 tw5894207214679585673 tw2606813140594388583 tw16005014695047645821 tw15954137912022264562 tw3382384246249654796 tw18051600033870311271 tw16849386273884223184 tw12270845447110769813 tw10874998215050175895 tw10122965283708878834 tw13615297110953491236:True)
 (tw2746027036916280701 tw10253413275477295736 tw15315205661023014217 tw5052702902174161121 tw4665438860515608871 tw13139199238565761808 tw18366441427185306064 tw9271623441497434434 tw1010555820168248984 tw17194973781388989945 tw10969868028619870887 tw1344495684485069477 tw10988805434015759849 tw1201536137295095704 tw17143031772837975708 tw291814811433835437 tw17485456383535086202 tw12678199892605046704 tw5274315959667666943 tw14574758709072171102 tw9068063585885073447 tw5159191784135907260 tw365876143526965344 tw5719587512388597313 tw9850220315637835603 tw599372762996993792 tw5224453745716965762 tw3954681710368258959 tw11211342101738167608 tw5103309052233074312 tw4605160565554525532 tw12787213626963453747 tw12624453850621754010 tw7571550646424847012 tw13747312846564662809 tw3121122399207982032 tw5955729531026361281 tw1803253206490233353 tw12664164136783481943 tw17401205307398138921:True)
 (tw13120830992342086068 tw10940964340962804071 tw4144950108626998841 tw2300014926108506734 tw9898124545004605346 tw3133267330994174721 tw13312823482838997507 tw1587180442085057340 tw9942423778648311994 tw17104320990306587129 tw6212711511744603100 tw16720218735196091265 tw1103219716995289378 tw7182515915027973854 tw7099782778286938478 tw9503753538500840537 tw645072086876087291 tw10731428904991635428 tw17968442174087809243 tw1263029970665212851 tw3545560428215666012 tw3295835090444885892 tw11273956599256495796 tw16435022433588364096 tw16015162352982976980 tw16148108023940694657 tw9352309536021739377 tw17985342166053646292 tw8564479548737907385 tw1721329464825971150 tw13461096384805824994 tw13484915683992929225 tw2957694688308529445 tw13012332266343211666 tw6581101219560585737 tw7507452136407096324 tw10980012875968151760 tw9777546491891949975 tw8187745170942862674 tw5721037563340111717:True)
 (tw8022315376643194886 tw18412827236824565169 tw4169954741060315407 tw4181189003973928661 tw16038886309633072339 tw16651911707292271454 tw17230437406796397175 tw8668057809211518650 tw16974908693705312767 tw10930030536275277627 tw12122955238946349447 tw8275821450522546493 tw16111206351131573084 tw12965209275302039839 tw1151919124095489133 tw137222172184795294 tw6171688434574216570 tw1240584864692986750 tw3974030507275812893 tw11596819718640710989 tw14973858225307065824 tw9981048100870009590 tw9883005027245705869 tw4117707510704071472 tw8119169326915083543 tw205061169379088971 tw16985306553900181026 tw3094845052197037474 tw13711290300263735311 tw6885162627532283692 tw17696134960745192219 tw15121713596150070423 tw15399705257029906196 tw1785294330803927551 tw650403612568992068 tw13913373424479587757 tw7809491346449067305 tw10426791785193137837 tw14923845354771957931 tw11822427683766635939:True)
 (tw3097176641709152962 tw15043064596979422714 tw2532220295255278722 tw7106046274258839087 tw10759616763305871976 tw11818934990120936409 tw2451741339961504812 tw7988754830263992661 tw16193419435659643715 tw3078868421546266455 tw18043460194086822974 tw597594113823751158 tw2343497154885407055 tw12086104165166614193 tw3729257001434115447 tw7321615416775440403 tw9348311753768232838 tw11800852920881559897 tw2386062173598057830 tw5011018995463657752 tw3072394912359475670 tw11559306924191110797 tw10884027910060107067 tw16368972853587142675 tw1747400022874465532 tw9481334893246316892 tw11827367228872881346 tw3704098096206337896 tw11141164719263434555 tw13205848133143494170 tw7737875274681196507 tw1420327688627201122 tw11164788544334345597 tw13715431469673495969 tw5692097807078315137 tw8175144886273700446 tw5807583285659205216 tw18106338273900625299 tw15708928257162196259 tw9136720440045528152:True)
 (tw17218966019955510016 tw13834642358553650032 tw2414261481746973342 tw4336466685423192097 tw3873757311574255430 tw9577347576318303242 tw1978931889162345056 tw13314493865528894570 tw4685521943444643234 tw7413229887308006788 tw1640910824455089089 tw10617634969283713159 tw8745744489381816941 tw12153333455267676449 tw17033062282343519470 tw2040351169653417762 tw796364892532651073 tw9888444625784077514 tw5764142554700862166 tw2173278208294522918 tw12849228091121389985 tw17099457709701692794 tw5824408128991119795 tw5837987078638826470 tw9916562427176760192 tw9611632023272296024 tw15081761947289946796 tw9342367659917893750 tw10313538058788981360 tw6027567403704960147 tw15158231618081190064 tw1807453943889462275 tw18030883271859521729 tw6663562432429163691 tw2401043661202825991 tw89491922135353360 tw6908497837999735484 tw8516676904996880653 tw10660878706170474919 tw17192090899893262760:True)
 (tw17454781984090196487 tw14800604414922952355 tw8433297882946709965 tw1317579126165789496 tw486451423294456172 tw8561858124712298802 tw17492554420684456981 tw5777188255974699135 tw4586156139145195664 tw2866061674906630785 tw9517847390365465035 tw11311451466088294431 tw15298907600448158878 tw14246152182619824502 tw5319077246022552840 tw13679118531235436614 tw3157554681051900507 tw16508630512680310044 tw9330718891978507149 tw15475248722959423194 tw5814945322755373906 tw9641548473566878228 tw15668565920346372192 tw312793073576318009 tw11178065461190023713 tw4545355375563525409 tw15050880284150294203 tw8936205129882274495 tw1602894903849611903 tw16097172803924971137 tw10873876231561172693 tw16265461894718842287 tw3792937066541492940 tw13506468414580773890 tw14100810121973327072 tw9506390689893525336 tw4280675513918693816 tw10705537556250206055 tw4296879248922587912 tw10199869274267490087:True)
 (tw13717935556788433515 tw7467247791354148424 tw2002209260457712734 tw9756775891619963337 tw18076694983465513962 tw6292433367810915324 tw16420851409292189325 tw13372304265884381859 tw9213597831322444312 tw8821450664545246818 tw18088141896614176909 tw11654428049669590915 tw13490394259140917877 tw4329352354665826124 tw6749105156315970572 tw18341523763109105873 tw13681440158757000928 tw5790180163322426675 tw5131404030770961106 tw16130535369746857895 tw13073881342917243280 tw5491815974906090664 tw12905925627696766221 tw2762774094384032019 tw4346222950486442792 tw14173209005913052776 tw18329152967032921575 tw778297519453270746 tw6866219085968141851 tw8846925402315947683 tw10143841407667863417 tw7202887227814920561 tw12647238282967729744 tw2686763595876334145 tw7008609367562581546 tw3120039959292281064 tw9901901208762007037 tw12158746614286969023 tw16010880987346553880 tw2123655260135198148:True)
 (tw13947048050383851338 tw6823055579315656695 tw10012972348624237841 tw8352448053206050626 tw13763652686875214857 tw3244991287648624415 tw9960472501950867488 tw18360436557985208672 tw16212905377135761625 tw14191118080837109176 tw15052218054964388710 tw1943291888693091949 tw9356212649835479347 tw14383682053630171014 tw1676660178560522688 tw10739886557003019509 tw16849909958673182987 tw2786573777396284607 tw8118238855710342948 tw7226389032120676596 tw3395901444982486641 tw10556396878089241437 tw9939049699759804149 tw2040156348196677879 tw9726039811964863970 tw1123228916311208935 tw15869700365255358900 tw3944334576828340037 tw17962087583523491654 tw16408304281568966424 tw10666334583829687565 tw13977409382955629423 tw13398869014586117031 tw12221231430800904997 tw7024818255144021960 tw6198972815117179468 tw323144734756211966 tw15332082054416273198 tw12582878749707145971 tw15136537846261810089:True)
 (tw5226275261778956215 tw3357003157512679981 tw7524075406908542700 tw3491354383239308777 tw9079738934543517025 tw18343542945342251750 tw17369833604111773922 tw14810090222911315355 tw4930082181549498222 tw3561415327869903913 tw15414340212464324959 tw903248342234888545 tw4593163478669839017 tw14401405244710206188 tw3236642913332659888 tw12450534934616172580 tw2338373321298942881 tw7359733599827295017 tw17747231019420006681 tw15376258566361487121 tw999193156920170718 tw15464889094808417866 tw11189538518773537121 tw4203211009216178436 tw528213869648036451 tw5952284495782952716 tw17718572905648992468 tw14995763007337171182 tw16899332547214784462 tw12035740330114363598 tw99058377448656551 tw17621406658807842081 tw11701400584962785149 tw13989439415828878821 tw582967130401558945 tw14239923171364988037 tw414920139421161971 tw654437040773277804 tw14412644883896327434 tw17071427252253129354:True)
 (tw16107329127482606206 tw1862209951400847304 tw16669676063182870504 tw1720721711542361710 tw12593679272878731063 tw6367939177192184337 tw11631240386692169070 tw407137662626235378 tw13321160499650485894 tw11962190393956922946 tw3549181812360595597 tw6592566576882772524 tw4702217122908355310 tw6994431395159816209 tw7470291070456363056 tw8449802120235714885 tw11997071227016909375 tw11755556028436934676 tw12101400534838798097 tw13853423304804105794 tw13961174748711586775 tw7961876707215440730 tw10655005732567203439 tw18135267259881941387 tw6025413420893887420 tw316728304052259388 tw8646395506716935772 tw14923208446614378196 tw9170064113277683188 tw9181989013184431729 tw1617534694600744672 tw75096696741456715 tw13624235626586177697 tw12944479130538748569 tw9244949284774922034 tw17156618048302955269 tw12699491803446645103 tw12495442148511807846 tw7210437126329073884 tw16047928395680547782:True)
 (tw1359306878293299393 tw6361410694036081967 tw10675928507806466514 tw10083687816549037184 tw461403926950085881 tw16403126818617190435 tw10976679774816796268 tw5301030830591358408 tw8742613326642473196 tw12340745012596746172 tw8403147663546527710 tw13818474786682775818 tw7338631843332310352 tw13333267845515670366 tw14858473965363144956 tw11648068793067996761 tw3431890520250267884 tw1724012896746985712 tw14819793756221145003 tw941715345210296626 tw3349889388546783089 tw15092699696573806476 tw3339997610166338473 tw3795944796733533000 tw11715787499967829784 tw13035647592987283498 tw15199112540408819922 tw13625511886265114965 tw11713552738180565004 tw9189113634543640856 tw9595498221582627855 tw4306055977395906935 tw4072719866882083885 tw2595087701186161897 tw9581275650080335748 tw16884298177219076281 tw2821432644459490002 tw17116095185153753046 tw5329511061985564574 tw4382550935995812831:True)
 (tw3309979381871528744 tw14110211941718133798 tw5757531940484644917 tw12667648233531910607 tw17947692844691480158 tw9693434124195078007 tw297658908649766437 tw11428116311306454151 tw2142479762595493081 tw4622800056569703220 tw15882886497058503501 tw12610007364408152585 tw1463322209354112915 tw9989932485257734840 tw10911657480899943895 tw18105943845018193326 tw4386358738493258359 tw299882799359924587 tw5914028131787368141 tw13428942060601559082 tw15057201070924788006 tw17599025799790872691 tw9459749499014693757 tw1072648567659387609 tw1914375244681296025 tw18046333348230861298 tw17878160043454410840 tw1667292365233997636 tw10117027375877863530 tw6489258049533011340 tw14934694774585147882 tw5117479634679035350 tw7663191232574707081 tw1198256320731539648 tw8425721653745990845 tw7191097417634873320 tw10354758021572718310 tw12374313857473512499 tw7444856588684291919 tw4464017589062432146:True)
 (tw9091392120322754144 tw302582772033078085 tw1744336470523017195 tw9673325702506594729 tw13576072671631551381 tw3773808963026797518 tw9987162959746506500 tw4890964233273898890 tw4300636838160688718 tw9448802442900000589 tw970608079841689391 tw18242172281998477226 tw8338962359208322059 tw12636510811560658460 tw10695598666906450099 tw2434120566882982711 tw18003748755238214074 tw8692651281416064670 tw3265076203976786902 tw16985890718706738820 tw14114033427967964357 tw15600242518830106243 tw10116422431325957585 tw3901363028535667795 tw13688554936019259378 tw10184792793525332484 tw7215969034621598380 tw15210500168242350328 tw2415346725715583398 tw7016290540360006670 tw11006502754154716310 tw10628878408006238351 tw4608458181975818987 tw6244373293691645110 tw14146187172088096607 tw11110854585265690597 tw7378263850169298201 tw5312275846388905106 tw8054437781367417266 tw15531058111125529493:True)
 (tw11445181508763991973 tw17079341937320928803 tw15349889673125332891 tw5945643798967911302 tw8213262794054317176 tw12655168909308219111 tw2556591021208419240 tw7760678719362640619 tw7420622023269850647 tw523440015045196226 tw13395700527525773550 tw4914329454781432650 tw7348884074021120012 tw8430610504513741251 tw3201946214931207836 tw12909046813318543193 tw9543028154429337501 tw16911970981302464126 tw9482633849702061798 tw13176370563917376172 tw17202152895880795412 tw16917678546387311433 tw624915695735303924 tw17971200960861991868 tw14940879537544658469 tw5788506953564773330 tw16277663359699276526 tw17783450576842815256 tw11173711431254632044 tw13723343884288533367 tw14969779793856362509 tw13646500973508422162 tw9482691732155187841 tw9843163581426250500 tw5413804097313539411 tw15877479844787771111 tw4711709425220926698 tw8091833202750687359 tw7139898159601567063 tw9414013691991034677:True)
 (tw18426446029073389100 tw9794446899004353022 tw9434756471617646415 tw16854640438917320315 tw10022559717290064341 tw4350057615393796880 tw10409304530144035201 tw15390598612887341660 tw1575558412559280476 tw10931336123298882557 tw10469084114452231558 tw7042036551570365370 tw944416155590391398 tw14324804280392529338 tw11186817911006651854 tw11051175937908189806 tw4493515306040113395 tw15479020040571024891 tw15311115425339722537 tw16815352819340751210 tw10553193168698635446 tw10969988425020260664 tw13191276516265746267 tw6430646865330720814 tw4448629022273480658 tw12249922750351784869 tw13481386643454008859 tw833210350768879797 tw251433072135351744 tw8901313162266542589 tw17723491288709195197 tw4864920723006297013 tw3848331678698610615 tw3118065827814458994 tw568114873036112910 tw17422196626878841517 tw8700543129415988423 tw14421263930842507932 tw3091430552253678229 tw10792408209963452945:True)
 (tw4589371020929387836 tw12704992918877724223 tw14228549214540026548 tw1752317733097551521 tw341516100668064158 tw7007427010691185593 tw12266059216695248162 tw582160815744100031 tw12588370466191495765 tw6369836541770760970 tw3011331069925099861 tw8279712779160862373 tw2298210350431701969 tw18108564809765044528 tw14176835512008563676 tw3578622035309888008 tw8873921617368581362 tw255532158656803608 tw14460175256013907441 tw11815701588268525840 tw2837945725440897259 tw15610959283907089108 tw6498644099176954462 tw14867018706226773534 tw8532143175268809340 tw2390660511638665252 tw14620163743783156010 tw9727121345114758782 tw3463328986178607107 tw13798452174796629976 tw12744281468926536937 tw11228477413980850857 tw7276916003295893424 tw9526001214749104375 tw12014632724166607008 tw15098882660421551350 tw4382264247627425667 tw17605756428037416491 tw3181070404390914598 tw2782783281362582031:True)
 (tw16334543544265213707 tw11639374541501598770 tw16437879759217196385 tw11918116767049753073 tw15987434031780826262 tw9222699613755123595 tw6770794508702200205 tw1281031266503504839 tw16070477259415282708 tw10931678287699135840 tw14854006346065875515 tw1989865625708245321 tw1541008842894457182 tw12928175293438363653 tw6367971883309091819 tw7846472889030616577 tw9539948436246367986 tw5717943184107902304 tw6747088415645629323 tw7462000397560137100 tw18182962988088866900 tw7003794826790228325 tw11162183984508219853 tw14677302787044658460 tw7952195861903819919 tw8787355915219694357 tw8422384736878824425 tw2698113922874102198 tw5380794741228497251 tw15216714964076921542 tw2524884505151953112 tw9694941939296553791 tw4980773128474851982 tw1625814055462396484 tw12194972074622540690 tw7963102335115940721 tw2992702279780136794 tw3751762350040852044:True)
open PySem PySem.W PyProof.Rows
set_option maxRecDepth 100000 in
set_option maxHeartbeats 0 in
theorem PySem.Challenge.cw_secondread_k31_desk_bringing_holds : PySem.Challenge.rw_secondread_k31_desk_bringing.Holds := by
 w_on;o_law;k_head;(case hw=>w_witness2)
 k_fill
 refine Prf.walk (l:=PySem.Challenge.rw_secondread_k31_desk_bringing) rfl rfl (fun w h Y=>PySem.W.kIn_of Y) ?F
 case F =>
  intro w mg fa h KX G hmg;refine' Prf.zlw KX G hmg ?aC_Exam ?a0 ?l0 ?c0 ?k0 ?a1 ?l1 ?c1 ?k1 ?a2 ?l2 ?c2 ?k2 ?a3 ?l3 ?c3 ?k3 ?a4 ?l4 ?c4 ?k4 ?a5 ?l5 ?c5 ?k5 ?a6 ?l6 ?c6 ?k6 ?a7 ?i7 ?l7 ?c7 ?k7 ?a8 ?l8 ?c8 ?k8 ?a9 ?l9 ?c9 ?k9 ?a10 ?l10 ?c10 ?k10 ?a11 ?i11 ?l11 ?c11 ?k11 ?a12 ?l12 ?c12 ?k12 ?a13 ?l13 ?c13 ?k13 ?a14 ?l14 ?c14 ?k14 ?a15 ?l15 ?c15 ?k15 ?a16 ?l16 ?c16 ?k16 ?a17 ?l17 ?c17 ?k17 ?a18 ?l18 ?c18 ?k18 ?a19 ?l19 ?c19 ?k19 ?a20 ?l20 ?c20 ?k20 ?a21 ?i21 ?l21 ?c21 ?k21 ?a22 ?i22 ?l22 ?c22 ?k22 ?a23 ?i23 ?l23 ?c23 ?k23 ?a24 ?l24 ?c24 ?k24 ?a25 ?i25 ?l25 ?c25 ?k25 ?a26 ?i26 ?l26 ?c26 ?k26 ?a27 ?l27 ?c27 ?k27 ?a28 ?l28 ?c28 ?k28 ?a29 ?l29 ?c29 ?k29 ?a30 ?l30 ?c30 ?k30 ?a31 ?i31 ?l31 ?c31 ?k31 ?a32 ?l32 ?c32 ?k32 ?a33 ?i33 ?l33 ?c33 ?k33 ?a34 ?l34 ?c34 ?k34 ?a35 ?l35 ?c35 ?k35 ?a36 ?i36 ?l36 ?c36 ?k36 ?a37 ?l37 ?c37 ?k37 ?a38 ?i38 ?l38 ?c38 ?k38 ?a39 ?i39 ?l39 ?c39 ?k39 ?a40 ?i40 ?l40 ?c40 ?k40 ?a41 ?i41 ?l41 ?c41 ?k41 ?a42 ?i42 ?l42 ?c42 ?k42 ?a43 ?i43 ?l43 ?c43 ?k43 ?a44 ?l44 ?c44 ?k44 ?a45 ?l45 ?c45 ?k45 ?a46 ?l46 ?c46 ?k46 ?a47 ?l47 ?c47 ?k47 ?a48 ?l48 ?c48 ?k48 ?a49 ?i49 ?l49 ?c49 ?k49 ?a50 ?l50 ?c50 ?k50 ?a51 ?l51 ?c51 ?k51 ?a52 ?l52 ?c52 ?k52 ?a53 ?l53 ?c53 ?k53 ?a54 ?l54 ?c54 ?k54 ?pg_Exam ?hd_Exam ?po_Exam ?sa_Exam ?mk_Exam ?kc_Exam ?n_Exam_paper_houses ?n_Exam_reader_rows ?n_Exam_widest_step ?n_Exam_is_dealt ?n_Exam_named_readers ?n_Exam_entered_points ?v_READERS_EACH ?v_MOST_HOUSES ?v_MOST_PAPERS ?v_MOST_LIMIT ?v_MOST_READERS ?v_MOST_STEP ?v_MOST_POINTS ?v_QUESTIONS ?lq_QUESTIONS ?mx_OutOfTime ?mx_UnknownNumber ?mx_NotDue ?mx_OutOfBounds ?mx_Full ?mx_ReadError ?xc_OutOfTime ?xc_UnknownNumber ?xc_OutOfBounds ?xc_Full ?x_OutOfTime_OutOfTime ?x_OutOfTime_UnknownNumber ?x_OutOfTime_NotDue ?x_OutOfTime_OutOfBounds ?x_OutOfTime_Full ?x_UnknownNumber_OutOfTime ?x_UnknownNumber_UnknownNumber ?x_UnknownNumber_NotDue ?x_UnknownNumber_OutOfBounds ?x_UnknownNumber_Full ?x_OutOfBounds_OutOfTime ?x_OutOfBounds_UnknownNumber ?x_OutOfBounds_NotDue ?x_OutOfBounds_OutOfBounds ?x_OutOfBounds_Full ?x_Full_OutOfTime ?x_Full_UnknownNumber ?x_Full_NotDue ?x_Full_OutOfBounds ?x_Full_Full ?z_abs ?z_all ?z_enumerate ?z_int ?z_isinstance ?z_len ?z_list ?z_max ?z_min ?z_range ?z_sorted ?z_str ?z_sum ?z_zip
  (case aC_Exam=>k_is)
  (case v_QUESTIONS=>k_is)
  (case mx_OutOfTime=>k_is)
  (case mx_UnknownNumber=>k_is)
  (case mx_NotDue=>k_is)
  (case mx_OutOfBounds=>k_is)
  (case mx_Full=>k_is)
  (case mx_ReadError=>k_is)
  all_goals (try k_is)
  all_goals (first | k_is | k_exc | kts_exm)
