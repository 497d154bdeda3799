import PyProof.Rows.All
import Wide.All
import OpenK.AllK
import Wide.FinOn
import Lean
import PyProof.EqAt
import PyProof.EqKinds
import PyProof.TupleCall
import PyProof.NeKinds
import KE.RegKTryMore
import KE.KIsAll
import PyProof.ExcArgsOwn
import PySem.Challenge.RW_secondread_k29_classes
set_option Elab.async false
set_option linter.all false
set_option maxRecDepth 100000
set_option maxHeartbeats 4000000
local macro_rules | `(tactic| trivial) => `(tactic| first | exact ⟨rfl,rfl,rfl,by decide +kernel,rfl,by decide +kernel,by decide +kernel⟩ | fail)
abbrev LI:=List (List Int)
open List (length_map getD_eq_getElem?_getD getElem?_eq_getElem mem_cons length_append length_range getElem?_map length_cons mem_range mem_cons_of_mem mem_append size_toArray mem_map map_append mem_filter map_cons all_eq_true length_take not_mem_nil mem_cons_self filter_cons length_set length_singleton mem_append_right nodup_cons nodup_append map_map mem_singleton length_nil getElem_mem append_nil getElem_of_mem pairwise_cons take_add_one take_length mem_append_left length_drop length_filter_le range_succ nodup_nil ext_getElem filter_map mem_of_getElem? length_replicate all_cons any_cons find?_cons lookup_cons filter_append foldl_cons getD_cons_zero getElem_inj map_nil any_eq_true pairwise_map of_mem_zip all_map all_nil take_zero map_drop)
open PySem.W (keepIn fnOf codeIn nsIn mg_of isFn mg_none_of kia_one emptyDict instObj plainGet lookIn plainOver makesIn methodObj plainGet_of takerIn callWith_K handedIn kitx_list kitx_dict methodCall_KW callWith_K0 cellsFrom_some kIn_of)
open Nat (zero_le lt_succ_of_lt le_succ le_add_right)
local macro_rules | `(tactic| omega)=>`(tactic| lia)
namespace L2
open PySem PySem.Spec PyProof.Rows
abbrev Key:=Sum Int Str
def keyIs:Key→Value→Bool
 | .inl k,v=>Value.isInt k v
 | .inr x,v=>Value.isStrOf x v
def keyH (w:World):Key→Int
 | .inl k=>hashInt k
 | .inr x=>hashStr w x
theorem keyIs_shape:∀ {k:Key} {v:Value},keyIs k v=true→(∃ i t,k=Sum.inl i∧v=Value.int i t)∨(∃ x t,k=Sum.inr x∧v=Value.str x t)
 | .inl i,v,h=>by
   obtain ⟨t,e⟩:=Value.isInt_shape (k:=i) (v:=v) h;exact .inl ⟨i,t,rfl,e⟩
 | .inr x,v,h=>by
   obtain ⟨t,e⟩:=Value.isStrOf_shape (x:=x) (v:=v) h;exact .inr ⟨x,t,rfl,e⟩
theorem zgY (i:Int) (t:Tok):keyIs (.inl i) (.int i t)=true:=by simp [keyIs,Value.isInt]
theorem zgZ (x:Str) (t:Tok):keyIs (.inr x) (.str x t)=true:=by simp [keyIs,Value.isStrOf]
theorem zkf (a b:Int):decide ((Sum.inl a:Key)=Sum.inl b)=(a == b):=by
 by_cases e:a=b
 ·subst e;simp
 ·have h:¬(Sum.inl a:Key)=Sum.inl b:=fun q=>e (Sum.inl.inj q);rw [decide_eq_false h];exact (beq_eq_false_iff_ne.mpr e).symm
theorem zkg (a b:Str):decide ((Sum.inr a:Key)=Sum.inr b)=decide (a=b):=by
 by_cases e:a=b
 ·subst e;simp
 ·have h:¬(Sum.inr a:Key)=Sum.inr b:=fun q=>e (Sum.inr.inj q);rw [decide_eq_false h,decide_eq_false e]
theorem zkh (a:Int) (b:Str):decide ((Sum.inl a:Key)=Sum.inr b)=false:=decide_eq_false (fun q=>nomatch q)
theorem zki (a:Str) (b:Int):decide ((Sum.inr a:Key)=Sum.inl b)=false:=decide_eq_false (fun q=>nomatch q)
def zbo (prog:Program) (w:World):PySem.KeyKind prog w Key where
 is:=keyIs
 hash:=keyH w
 inj:=fun v a b ha hb=>by
  rcases keyIs_shape ha with ⟨i,t,rfl,rfl⟩ | ⟨x,t,rfl,rfl⟩
  ·rcases keyIs_shape hb with ⟨j,u,rfl,e⟩ | ⟨y,u,rfl,e⟩
   ·injection e with e1 _;rw [e1]
   ·exact nomatch e
  ·rcases keyIs_shape hb with ⟨j,u,rfl,e⟩ | ⟨y,u,rfl,e⟩
   ·exact nomatch e
   ·injection e with e1 _;rw [e1]
 byValue:=fun k v h=>by
  rcases keyIs_shape h with ⟨i,t,rfl,rfl⟩ | ⟨x,t,rfl,rfl⟩ <;> rfl
 pyHash:=fun hv h=>by
  rcases keyIs_shape hv with ⟨i,t,rfl,rfl⟩ | ⟨x,t,rfl,rfl⟩
  ·exact wpAny_pyHash_int h
  ·exact wpAny_pyHash_str h
 eqBool:=fun hu hv h=>by
  rcases keyIs_shape hu with ⟨i,t,rfl,rfl⟩ | ⟨x,t,rfl,rfl⟩
  ·rcases keyIs_shape hv with ⟨j,u,rfl,rfl⟩ | ⟨y,u,rfl,rfl⟩
   ·rw [zkf] at h;exact wpAny_eqBool_int h
   ·rw [zkh] at h;exact SeqAt.EqAt.int_str i t y u _ _ _ _ h
  ·rcases keyIs_shape hv with ⟨j,u,rfl,rfl⟩ | ⟨y,u,rfl,rfl⟩
   ·rw [zki] at h;exact SeqAt.EqAt.str_int x t j u _ _ _ _ h
   ·rw [zkg] at h;exact wpAny_eqBool_str h
 «strs»:=fun k x t v h=>by
  rcases keyIs_shape h with ⟨i,u,rfl,e⟩ | ⟨y,u,rfl,e⟩
  ·exact nomatch e
  ·injection e with e1 _;subst e1
   cases v <;> rfl
theorem zfm (prog:Program) (w:World) (i:Int) (t:Tok):(zbo prog w).is (.inl i) (.int i t)=true:=zgY i t
theorem zfn (prog:Program) (w:World) (x:Str) (t:Tok):(zbo prog w).is (.inr x) (.str x t)=true:=zgZ x t
end L2
namespace L2
open PySem PySem.Spec PyProof.Rows
inductive V where
 | non | bl (b:Bool) | int (i:Int) | str (x:Str) | byt (b:Array UInt8) | flt (b:UInt64) | ref (a:Addr) | ty (n:String)
 deriving DecidableEq
def RelV:V→Value→Prop
 | .non,u=>u=Value.none
 | .bl b,u=>u=Value.bool b
 | .int i,u=>∃ t,u=Value.int i t
 | .str x,u=>∃ t,u=Value.str x t
 | .byt b,u=>∃ t,u=Value.bytes b t
 | .flt b,u=>∃ t,u=Value.float b t
 | .ref a,u=>u=Value.ref a
 | .ty n,u=>u=Value.type n
abbrev Vals:List V→List Value→Prop:=Paired RelV
theorem Vals.length {xs:List V} {us:List Value} (r:Vals xs us):xs.length=us.length:=Paired.length r
theorem Vals.get:∀ {xs:List V} {us:List Value} {i:Nat} {x:V},Vals xs us→xs[i]? = some x→∃ u,us[i]? = some u∧RelV x u
 | _,_,_,_,.nil,e=>by simp at e
 | _,_,0,_,.cons r _,e=>by simp at e;subst e;exact ⟨_,rfl,r⟩
 | _,_,i+1,x,.cons _ t,e=>by
   obtain ⟨u,h1,h2⟩:=Vals.get (i:=i) (x:=x) t (by simpa using e);exact ⟨u,by simpa using h1,h2⟩
theorem Vals.set {x:V} {u:Value} (r:RelV x u):∀ {xs:List V} {us:List Value} (i:Nat),Vals xs us→Vals (xs.set i x) (us.set i u)
 | _,_,_,.nil=>.nil
 | _,_,0,.cons _ t=>.cons r t
 | _,_,i+1,.cons q t=>.cons q (Vals.set r i t)
theorem Vals.append:∀ {xs ys:List V} {us ws:List Value},Vals xs us→Vals ys ws→Vals (xs++ys) (us++ws)
 | _,_,_,_,.nil,s=>s
 | _,_,_,_,.cons r t,s=>.cons r (Vals.append t s)
theorem Vals.take:∀ {xs:List V} {us:List Value} (n:Nat),Vals xs us→Vals (xs.take n) (us.take n)
 | _,_,0,_=>.nil
 | _,_,_+1,.nil=>.nil
 | _,_,n+1,.cons r t=>.cons r (Vals.take n t)
theorem Vals.drop:∀ {xs:List V} {us:List Value} (n:Nat),Vals xs us→Vals (xs.drop n) (us.drop n)
 | _,_,0,r=>r
 | _,_,_+1,.nil=>.nil
 | _,_,n+1,.cons _ t=>Vals.drop n t
def RelO:Option V→Option Value→Prop
 | some v,some u=>RelV v u
 | none,none=>True
 | _,_=>False
def KV {κ:Type}:List (κ×V)→List (κ×Value)→Prop:=Paired fun (p:κ×V) (q:κ×Value)=>p.1=q.1∧RelV p.2 q.2
def kV:Key→V
 | .inl i=>.int i
 | .inr x=>.str x
inductive HO where
 | lst (xs:List V)
 | tup (xs:List V)
 | dK (kvs:List (Key×V)) | dT (kvs:List (List Key×V))
 | set (S:Int→Bool) (n:Nat)
 | ins (C dx:Addr) (fs:List (Str×V))
 | own (x:Addr)
 | xd (fs:List (Str×V))
 | met (f x:Addr)
 | rng (lo hi:Int)
 | frz (o:Obj) (u:HO)
 | tbl (ps:Array Value)
 | ext (φ:Heap→Prop)
abbrev Hp:=Addr→Option HO
def upd (H:Hp) (a:Addr) (o:HO):Hp:=fun b=>if b=a then some o else H b
theorem zao {H:Hp} {a:Addr} {o:HO}:upd H a o a=some o:=by unfold upd;rw [if_pos rfl]
theorem zav {H:Hp} {a b:Addr} {o:HO} (h:b≠a):upd H a o b=H b:=by unfold upd;rw [if_neg h]
theorem zjs {H:Hp} {a:Addr} {o u:HO}:upd (upd H a o) a u=upd H a u:=by
 funext b;unfold upd;split <;> rfl
theorem zlB {H:Hp} {a b:Addr} {o u:HO} (h:H a=some o) (h':H b=some u) (d:o≠u):a≠b:=by
 intro e;subst e;rw [h] at h';exact d (Option.some.inj h')
theorem zag {H:Hp} {a b:Addr} {o:HO} (h:H a=some o) (h':H b=none):a≠b:=by
 intro e;subst e;rw [h] at h';cases h'
section
variable (P:Program) (w:World)
def zbn (H:Hp) (h:Heap) (a:Addr):HO→Prop
 | .lst xs=>xs.length≤sizeLine∧∃ (its:List Value) (n:Nat),Vals xs its∧h.get? a=some { cls:=.type "list",data:=.seq its.toArray n }
 | .tup xs=>xs.length≤sizeLine∧∃ its:List Value,Vals xs its∧IsTup h a its.toArray
 | .dK kvs=>kvs.length≤sizeLine∧(a == sysModules)=false∧∃ vs,KV kvs vs∧h.DictOf (zbo P w) a vs
 | .dT kvs=>kvs.length≤sizeLine∧(a == sysModules)=false∧∃ xs:List (List Key×Addr×Value),
    Paired (fun (p:List Key×V) (q:List Key×Addr×Value)=>p.1=q.1∧H q.2.1=some (.tup (p.1.map kV))∧RelV p.2 q.2.2) kvs xs ∧
    ∃ o es ep,h.get? a=some o∧o.ExactDict∧o.data=.dict es ep∧es.toList=xs.map (entryOfKey (tupleKind (zbo P w)))∧(xs.map (·.1)).Nodup
 | .set S n=>h.SetOf (intKind P w) a S n
 | .ins C dx fs=>H dx=some (.own a)∧fs.length≤1000∧dx≠a∧h.get? a=some (instObj C dx) ∧
    ∃ mA,h.Ns1 dx mA∧(∀ f,RelO (fs.lookup f) (mA f))∧PySem.Within mA (fs.map (·.1))
 | .own _=>∃ o,h.get? a=some o
 | .xd fs=>∃ mA,h.Ns1 a mA∧∀ f,RelO (fs.lookup f) (mA f)
 | .rng lo hi=>∃ t u v,h.get? a=some { cls:=.type "range",data:=.fields #[.int lo t,.int hi u,.int 1 v] }
 | .frz o u=>h.get? a=some o∧zbn H h a u
 | .tbl ps=>h.get? a=some { cls:=.none,data:=.fields ps }
 | .met f x=>h.get? a=some (methodObj (.ref f) (.ref x))
 | .ext φ=>φ h∧(∃ o,h.get? a=some o)∧∀ h1 h2:Heap,φ h1→(∀ o,h1.get? a=some o→h2.get? a=some o)→φ h2
def HOk (H:Hp) (h:Heap):Prop:=∀ a o,H a=some o→zbn P w H h a o
end
section
variable {P:Program} {w:World} {H H':Hp} {h h':Heap} {a:Addr} {o:HO}
theorem zbn.lt (x:zbn P w H h a o):a < h.objs.size:=by
 cases o with
 | lst xs=>obtain ⟨_,_,_,_,e⟩:=x;exact Heap.lt_size e
 | tup xs=>obtain ⟨_,_,_,p⟩:=x;exact p.lt
 | dK kvs=>obtain ⟨_,_,_,_,o,_,_,e,_⟩:=x;exact Heap.lt_size e
 | dT kvs=>obtain ⟨_,_,_,_,o,_,_,e,_⟩:=x;exact Heap.lt_size e
 | set S n=>obtain ⟨o,_,_,_,e,_⟩:=x;exact Heap.lt_size e
 | ins C dx fs=>obtain ⟨_,_,_,e,_⟩:=x;exact Heap.lt_size e
 | own y=>obtain ⟨_,e⟩:=x;exact Heap.lt_size e
 | xd fs=>obtain ⟨_,⟨_,_,_,e,_⟩,_⟩:=x;exact Heap.lt_size e
 | rng lo hi=>obtain ⟨_,_,_,e⟩:=x;exact Heap.lt_size e
 | frz ob u=>obtain ⟨e,_⟩:=x;exact Heap.lt_size e
 | tbl ps=>exact Heap.lt_size (show h.get? a=some _ from x)
 | met f y=>exact Heap.lt_size (show h.get? a=some _ from x)
 | ext φ=>obtain ⟨_,⟨_,e⟩,_⟩:=x;exact Heap.lt_size e
theorem Paired.mapP {α β:Type} {F G:α→β→Prop}:∀ {l₁:List α} {l₂:List β},Paired F l₁ l₂→(∀ a b,F a b→G a b)→Paired G l₁ l₂
 | _,_,.nil,_=>.nil
 | _,_,.cons r t,f=>.cons (f _ _ r) (Paired.mapP t f)
theorem zbn.stay (x:zbn P w H h a o) (k:∀ b u,(b=a∨H b=some (.own a))→h.get? b=some u→h'.get? b=some u)
  (ho:∀ b,H b=some (.own a)→H' b=some (.own a)) (ht:∀ b xs,H b=some (.tup xs)→H' b=some (.tup xs)):zbn P w H' h' a o:=by
 induction o with
 | lst xs=>obtain ⟨z,its,n,r,e⟩:=x;exact ⟨z,its,n,r,k _ _ (.inl rfl) e⟩
 | tup xs=>obtain ⟨z,its,r,ob,e,c⟩:=x;exact ⟨z,its,r,ob,k _ _ (.inl rfl) e,c⟩
 | dK kvs=>obtain ⟨z,y,vs,r,ob,es,ep,e,c⟩:=x;exact ⟨z,y,vs,r,ob,es,ep,k _ _ (.inl rfl) e,c⟩
 | dT kvs =>
   obtain ⟨z,y,xs,r,ob,es,ep,e,c⟩:=x;exact ⟨z,y,xs,Paired.mapP r fun p q z=>⟨z.1,ht _ _ z.2.1,z.2.2⟩,ob,es,ep,k _ _ (.inl rfl) e,c⟩
 | set S n=>obtain ⟨ob,es,ep,t,e,c⟩:=x;exact ⟨ob,es,ep,t,k _ _ (.inl rfl) e,c⟩
 | ins C dx fs =>
   obtain ⟨d,z,ne,e,mA,⟨od,es,ep,e2,c⟩,r⟩:=x;exact ⟨ho _ d,z,ne,k _ _ (.inl rfl) e,mA,⟨od,es,ep,k _ _ (.inr d) e2,c⟩,r⟩
 | own y=>obtain ⟨ob,e⟩:=x;exact ⟨ob,k _ _ (.inl rfl) e⟩
 | xd fs=>obtain ⟨mA,⟨od,es,ep,e,c⟩,r⟩:=x;exact ⟨mA,⟨od,es,ep,k _ _ (.inl rfl) e,c⟩,r⟩
 | rng lo hi=>obtain ⟨t,u,v,e⟩:=x;exact ⟨t,u,v,k _ _ (.inl rfl) e⟩
 | frz ob u ih=>obtain ⟨e,q⟩:=x;exact ⟨k _ _ (.inl rfl) e,ih q⟩
 | tbl ps =>
   have e:h.get? a=some { cls:=.none,data:=.fields ps }:=x;show h'.get? a=some { cls:=.none,data:=.fields ps };exact k a _ (.inl rfl) e
 | met f y =>
   have e:h.get? a=some (methodObj (.ref f) (.ref y)):=x;show h'.get? a=some (methodObj (.ref f) (.ref y));exact k a _ (.inl rfl) e
 | ext φ=>obtain ⟨p,⟨o,e⟩,st⟩:=x;exact ⟨st _ _ p fun o q=>k _ _ (.inl rfl) q,⟨o,k _ _ (.inl rfl) e⟩,st⟩
theorem HOk.lt (x:HOk P w H h) (e:H a=some o):a < h.objs.size:=(x a o e).lt
theorem HOk.fresh (x:HOk P w H h) (e:h.objs.size≤a):H a=none:=by
 cases q:H a with
 | none=>rfl
 | some u=>exact absurd (Nat.lt_of_lt_of_le (x.lt q) e) (Nat.lt_irrefl _)
theorem HOk.kept (x:HOk P w H h) (k:∀ b u,h.get? b=some u→h'.get? b=some u):HOk P w H h':=fun a o e =>
 (x a o e).stay (fun b u _ q=>k b u q) (fun _ q=>q) fun _ _ q=>q
theorem HOk.laid (x:HOk P w H h) (k:∀ b u,h.get? b=some u→h'.get? b=some u) (hp:h.objs.size≤a) (new:zbn P w (upd H a o) h' a o):HOk P w (upd H a o) h':=fun b u e=>by
 have hn:=x.fresh hp
 by_cases hb:b=a
 ·subst hb;rw [zao] at e;cases e;exact new
 ·rw [zav hb] at e;exact (x b u e).stay (fun c v _ q=>k c v q) (fun c q=>by rw [zav (zag q hn)];exact q) fun c xs q=>by rw [zav (zag q hn)];exact q
end
def Rd (H:Hp) (a:Addr) (u:HO):Prop:=H a=some u∨∃ o,H a=some (.frz o u)
theorem Rd.ok {P:Program} {w:World} {H:Hp} {h:Heap} {a:Addr} {u:HO} (r:Rd H a u) (x:HOk P w H h):zbn P w H h a u:=by
 rcases r with r | ⟨o,r⟩
 ·exact x a u r
 ·obtain ⟨_,q⟩:=x a _ r;exact q
def Mut:Option HO→Prop
 | some (.lst _)=>True
 | some (.dK _)=>True
 | some (.dT _)=>True
 | some (.set _ _)=>True
 | some (.ins _ _ _)=>True
 | some (.ext _)=>True
 | _=>False
section
variable {P:Program} {w:World} {H:Hp} {h h':Heap} {x e:Addr} {o':HO}
theorem HOk.write (ok:HOk P w H h) (mu:Mut (H x)) (he:e=x∨H e=some (.own x)) (k:∀ b u,b≠e→h.get? b=some u→h'.get? b=some u) (heo:∃ u,h'.get? e=some u)
  (new:zbn P w (upd H x o') h' x o'):HOk P w (upd H x o') h':=fun b u q=>by
 have nown:∀ c y,H c=some (.own y)→c≠x:=fun c y r z=>by subst z;rw [r] at mu;exact mu
 have ntup:∀ c xs,H c=some (.tup xs)→c≠x:=fun c xs r z=>by subst z;rw [r] at mu;exact mu
 by_cases hb:b=x
 ·subst hb;rw [zao] at q;cases q;exact new
 ·rw [zav hb] at q
  by_cases hbe:b=e
  ·have q':H b=some (.own x):=by
    rcases he with z | z
    ·exact absurd (hbe.trans z) hb
    ·rw [hbe];exact z
   rw [q] at q';cases q'
   obtain ⟨v,hv⟩:=heo;exact ⟨v,by rw [hbe];exact hv⟩
  ·refine (ok b u q).stay (fun c v hc r=>k c v ?_ r) (fun c r=>by rw [zav (nown c b r)];exact r) fun c xs r=>by rw [zav (ntup c xs r)];exact r
   rcases hc with rfl | hc
   ·exact hbe
   ·rintro rfl;rcases he with z | z
    ·exact nown c b hc z
    ·rw [hc] at z;cases z;exact hb rfl
end
structure Un (fs ex:List Addr) (H H':Hp) (h h':Heap):Prop where
 keep:∀ b o,h.get? b=some o→H b=none→b∉fs→b∉ex→h'.get? b=some o
 slot:∀ b o,h.get? b=some o→H b=none→b∈fs→b∉ex→∃ sl,h'.get? b=some { o with slots:=sl }
 free:∀ b o,h.get? b=some o→H b=none→b∉ex→H' b=none
 there:∀ b o,h.get? b=some o→b∉ex→∃ o',h'.get? b=some o'
 tups:∀ b xs,H b=some (.tup xs)→H' b=some (.tup xs)
 frzs:∀ b o u,H b=some (.frz o u)→H' b=some (.frz o u)
 tbls:∀ b ps,H b=some (.tbl ps)→∃ more,H' b=some (.tbl (ps++more))
section
variable {fs fs' ex ex':List Addr} {H H1 H2:Hp} {h h1 h2 h':Heap} {a x e:Addr} {o:HO}
theorem Un.any (u:Un fs ex H H1 h h1) {b:Addr} {ob:Obj} (q:h.get? b=some ob) (n:H b=none) (hx:b∉ex):∃ sl,h1.get? b=some { ob with slots:=sl }:=by
 by_cases hb:b∈fs
 ·exact u.slot b ob q n hb hx
 ·exact ⟨ob.slots,u.keep b ob q n hb hx⟩
theorem Un.kept (k:∀ b u,h.get? b=some u→h'.get? b=some u):Un fs ex H H h h' :=
 ⟨fun b ob q _ _ _=>k b ob q,fun b ob q _ _ _=>⟨ob.slots,k b ob q⟩,fun _ _ _ n _=>n,fun b ob q _=>⟨ob,k b ob q⟩,fun _ _ q=>q,fun _ _ _ q=>q,fun _ ps q=>⟨#[],by rw [q];simp⟩⟩
theorem Un.refl:Un fs ex H H h h:=Un.kept fun _ _ q=>q
theorem Un.laid (k:∀ b u,h.get? b=some u→h'.get? b=some u) (hp:h.objs.size≤a) (hn:H a=none):Un fs ex H (upd H a o) h h' where
 keep:=fun b u q _ _ _=>k b u q
 slot:=fun b u q _ _ _=>⟨u.slots,k b u q⟩
 free:=fun b u q n _=>by rw [zav (Nat.ne_of_lt (Nat.lt_of_lt_of_le (Heap.lt_size q) hp))];exact n
 there:=fun b u q _=>⟨u,k b u q⟩
 tups:=fun b xs q=>by rw [zav (zag q hn)];exact q
 frzs:=fun b u xs q=>by rw [zav (zag q hn)];exact q
 tbls:=fun b ps q=>⟨#[],by rw [zav (zag q hn),q];simp⟩
theorem Un.write (mu:Mut (H x)) (he:e=x∨H e=some (.own x)) (k:∀ b u,b≠e→h.get? b=some u→h'.get? b=some u) (heo:∃ u,h'.get? e=some u):Un fs ex H (upd H x o) h h':=by
 have hx:∀ b,H b=none→b≠x:=fun b n z=>by subst z;rw [n] at mu;exact mu
 have hb:∀ b,H b=none→b≠e:=fun b n z=>by
  subst z;rcases he with r | r
  ·exact hx b n r
  ·rw [n] at r;cases r
 have hm:∀ b u,H b=some u→¬Mut (some u)→b≠x:=fun b u q nm z=>by subst z;rw [q] at mu;exact nm mu
 refine ⟨fun b u q n _ _=>k b u (hb b n) q,fun b u q n _ _=>⟨u.slots,k b u (hb b n) q⟩,fun b u q n _=>by rw [zav (hx b n)];exact n,fun b u q _=>?_,
  fun b xs q=>by rw [zav (hm b _ q fun z=>z)];exact q,fun b u xs q=>by rw [zav (hm b _ q fun z=>z)];exact q,fun b ps q=>⟨#[],by rw [zav (hm b _ q fun z=>z),q];simp⟩⟩
 by_cases hbe:b=e
 ·subst hbe;exact heo
 ·exact ⟨u,k b u hbe q⟩
end
def trk (h:Heap) (H:Hp):List Addr:=(List.range h.objs.size).filter fun a=>(H a).isSome
def hidT (h:Heap) (H:Hp):Heap:=PySem.W.hideAll h (trk h H)
theorem zg0 (h:Heap) (H:Hp):(hidT h H).objs.size=h.objs.size:=PySem.W.hideAll_size _ _
theorem zij {h:Heap} {H:Hp} {b:Addr} {o:Obj} (e:h.get? b=some o) (n:H b=none):(hidT h H).get? b=some o :=
 PySem.W.hideAll_get _ e fun hm=>by
  have q:(H b).isSome=true:=(mem_filter.mp hm).2;rw [n] at q;simp at q
theorem zjt {h:Heap} {H:Hp} {b:Addr} {o:Obj} (e:(hidT h H).get? b=some o):h.get? b=some o∧H b=none:=by
 have e':h.get? b=some o:=PySem.W.of_hideAll (trk h H) e;refine ⟨e',?_⟩
 cases q:H b with
 | none=>rfl
 | some x =>
   have hm:b∈trk h H:=mem_filter.mpr ⟨mem_range.mpr (Heap.lt_size e'),by simp [q]⟩;have z:(hidT h H).get? b=none:=PySem.W.hideAll_none (trk h H) hm;rw [z] at e;cases e
end L2
namespace L2
open PySem PySem.Spec PyProof.Rows
structure Mod (K:PySem.W.Frag) (mg:Str→Option Value) (base:Heap):Prop where
 kin:K.In base
 glob:base.Ns mainGlobals mg
 blt:∃ mb,base.Ns builtinsNs mb∧∀ x:Str,x≠"__name__"→mb x=bootBuiltins x
 nolimit:base.NoLimit
structure Cx where
 prog:Program
 w:World
 K:PySem.W.Frag
 mg:Str→Option Value
 base:Heap
 A:Around
 N:List Str
 s₀:Shared
 H₀:Hp
 env:Env
 outer:List Env
 stack:List Env
 ex:List Addr
 fn:Str→Bool
 calm:Bool
 pn:List (Addr×Obj)
 xe:Value→Shared→Prop
def frs (l:List Env):List Addr:=l.filterMap (·.frame)
abbrev Cx.fs (X:Cx):List Addr:=frs X.outer
def Vis (sc:Scope) (x:Str):Prop:=sc.names.lookup x=some .local∨sc.names.lookup x=some .cell∨sc.names.lookup x=some .free
def Loc (sc:Scope) (x:Str):Prop:=sc.names.lookup x=some .local∨sc.names.lookup x=some .cell
def Look (env:Env) (h:Heap) (m:Str→Option Value) (x:Str) (u:Value):Prop :=
 (env.kindOf x=some .local∧m x=some u)∨((env.kindOf x=some .cell∨env.kindOf x=some .free)∧∃ c,env.cells.lookup x=some c∧h.IsCell c (some u))
structure Cx.Ok (X:Cx):Prop where
 mod:Mod X.K X.mg X.base
 kind:X.env.scope.kind=.function
 glob:X.env.globals=mainGlobals
 blt:X.env.builtins=builtinsNs
 above:X.s₀.heap.objs.size≤X.env.locals
 inj:∀ x y c,X.env.cells.lookup x=some c→X.env.cells.lookup y=some c→x=y
 has:∀ x,(X.env.kindOf x=some .cell∨X.env.kindOf x=some .free)→∃ c,X.env.cells.lookup x=some c
 cab:∀ x c,X.fn x=true→X.env.cells.lookup x=some c→X.s₀.heap.objs.size≤c
 hd:X.calm=true→X.A.handled=none
 frames:X.A.frames=some X.stack
 stk:X.stack=X.outer∨(X.stack=X.env::X.outer∧X.env.frame=some X.env.locals)
 exf:∀ b∈X.ex,b≠X.env.locals∧∀ x c,X.env.cells.lookup x=some c→c≠b
 bs:∀ b o,X.base.get? b=some o→X.s₀.heap.get? b=some o∧X.H₀ b=none
 bsz:X.base.objs.size≤X.s₀.heap.objs.size
 noex:∀ b o,X.base.get? b=some o→b∉X.ex
 exfs:∀ b∈X.ex,b∉X.fs
 funs:X.s₀.heap.FunFrames X.base X.outer
 frf:∀ b∈X.fs,X.H₀ b=none
structure Inv (X:Cx) (pins:List (Addr×Obj)) (σ:List (Option V)) (H:Hp) (s:Shared):Prop where
 ok:X.Ok
 os:s.os=X.s₀.os
 bare:AllBare s.gens
 base:Un X.fs X.ex X.H₀ H X.s₀.heap s.heap
 loc:∃ m,s.heap.Ns X.env.locals m∧∀ (i:Nat) (x:Str) (v:V),X.N[i]? = some x→σ[i]? = some (some v)→Vis X.env.scope x→∃ u,RelV v u∧Look X.env s.heap m x u
 cell:∀ x c,X.env.cells.lookup x=some c→∃ v,s.heap.IsCell c v
 free:H X.env.locals=none
 freeC:∀ x c,X.env.cells.lookup x=some c→H c=none
 pin:∀ p∈X.pn++pins,s.heap.get? p.1=some p.2∧H p.1=none∧p.1≠X.env.locals∧p.1∉X.fs∧∀ v,p.2.data≠.cell v
 hok:HOk X.prog X.w H s.heap
 len:σ.length=X.N.length
section
variable {X:Cx} {pins:List (Addr×Obj)} {σ:List (Option V)} {H H':Hp} {s:Shared} {h':Heap}
theorem Cx.Ok.nofr (ok:X.Ok) {b:Addr} {o:Obj} (e:X.base.get? b=some o):b∉X.fs:=fun hb=>by
 have:=(ok.funs.mem hb).1;rw [e] at this;cases this
theorem Inv.bs (I:Inv X pins σ H s):∀ b o,X.base.get? b=some o→s.heap.get? b=some o∧H b=none:=fun b o e =>
 ⟨I.base.keep b o (I.ok.bs b o e).1 (I.ok.bs b o e).2 (I.ok.nofr e) (I.ok.noex b o e),I.base.free b o (I.ok.bs b o e).1 (I.ok.bs b o e).2 (I.ok.noex b o e)⟩
theorem Inv.bk (I:Inv X pins σ H s):∀ b o,X.base.get? b=some o→s.heap.get? b=some o:=fun b o e=>(I.bs b o e).1
theorem Inv.mod (I:Inv X pins σ H s):Mod X.K X.mg X.base:=I.ok.mod
theorem Inv.kIn (I:Inv X pins σ H s):X.K.In s.heap:=I.ok.mod.kin.keeps I.bk
theorem Inv.lt (I:Inv X pins σ H s):X.env.locals < s.heap.objs.size:=let ⟨_,hn,_⟩:=I.loc;hn.lt
theorem Inv.sz (I:Inv X pins σ H s):X.s₀.heap.objs.size≤s.heap.objs.size:=Nat.le_trans I.ok.above (Nat.le_of_lt I.lt)
theorem Inv.nofs (I:Inv X pins σ H s) {a:Addr} (h:s.heap.objs.size≤a):a∉X.fs:=fun hb=>by
 obtain ⟨_,o,ho,_⟩:=I.ok.funs.mem hb;exact absurd (Nat.lt_of_lt_of_le (Heap.lt_size ho) (Nat.le_trans I.sz h)) (Nat.lt_irrefl _)
theorem Inv.cne (I:Inv X pins σ H s):∀ x c,X.env.cells.lookup x=some c→c≠X.env.locals:=fun x c e z=>by
 obtain ⟨v,o,ho,hd⟩:=I.cell x c e;obtain ⟨m,⟨o',es,ep,ho',hd',_⟩,_⟩:=I.loc;rw [z,ho'] at ho;cases ho;rw [hd'] at hd;cases hd
theorem Inv.funs (I:Inv X pins σ H s):s.heap.FunFrames X.base X.outer:=by
 have all:∀ (l:List Env),(∀ b∈frs l,b∈X.fs)→X.s₀.heap.FunFrames X.base l→s.heap.FunFrames X.base l:=by
  intro l
  induction l with
  | nil=>intro _ _;trivial
  | cons env r ih =>
    intro hs hl;obtain ⟨hk,⟨L,o,hf,hn,ho,hd⟩,hr⟩:=hl;have hL:L∈X.fs:=hs L (by unfold frs;rw [List.filterMap_cons,hf];exact mem_cons_self);obtain ⟨sl,e⟩:=I.base.slot L o ho (I.ok.frf L hL) hL fun z=>I.ok.exfs L z hL;exact ⟨hk,⟨L,_,hf,hn,e,hd⟩,ih (fun b hb=>hs b (by unfold frs;rw [List.filterMap_cons,hf];exact mem_cons_of_mem _ hb)) hr⟩
 exact all X.outer (fun _ hb=>hb) I.ok.funs
theorem Inv.stack (I:Inv X pins σ H s):s.heap.FunFrames X.base X.stack:=by
 rcases I.ok.stk with e | ⟨e,hf⟩
 ·rw [e];exact I.funs
 ·rw [e];obtain ⟨m,hn,_⟩:=I.loc;refine .cons (by rw [I.ok.kind];decide) hf hn ?_ I.funs;exact Heap.get?_none_of_le (Nat.le_trans I.ok.bsz I.ok.above)
theorem Inv.stkSub (I:Inv X pins σ H s):∀ b∈frs X.stack,b∈X.env.locals::X.fs:=fun b hb=>by
 rcases I.ok.stk with e | ⟨e,hf⟩
 ·rw [e] at hb;exact mem_cons_of_mem _ hb
 ·rw [e] at hb;unfold frs at hb;rw [List.filterMap_cons,hf] at hb;exact hb
theorem Inv.stkFree (I:Inv X pins σ H s):∀ b∈frs X.stack,H b=none:=fun b hb=>by
 rcases mem_cons.mp (I.stkSub b hb) with e | hb
 ·rw [e];exact I.free
 ·obtain ⟨_,o,ho,_⟩:=I.ok.funs.mem hb;exact I.base.free b o ho (I.ok.frf b hb) fun z=>I.ok.exfs b z hb
theorem Inv.step {g':Array GenState} {t':Nat} {d':Drawn} {ch:List Addr} (I:Inv X pins σ H s)
  (hch:∀ b∈ch,(b∈X.ex∨X.s₀.heap.objs.size≤b)∧b≠X.env.locals∧(∀ x c,X.env.cells.lookup x=some c→c≠b)∧∀ p∈X.pn++pins,p.1≠b)
  (keep:∀ b o,b≠X.env.locals→b∉X.fs→b∉ch→s.heap.get? b=some o→H b=none→h'.get? b=some o)
  (slot:∀ b o,b≠X.env.locals→b∈X.fs→b∉ch→s.heap.get? b=some o→H b=none→∃ sl,h'.get? b=some { o with slots:=sl }) (free:∀ b o,b∉ch→s.heap.get? b=some o→H b=none→H' b=none)
  (there:∀ b o,b∉ch→s.heap.get? b=some o→∃ o',h'.get? b=some o')
  (tups:∀ b xs,H b=some (.tup xs)→H' b=some (.tup xs)) (frzs:∀ b o u,H b=some (.frz o u)→H' b=some (.frz o u)) (tbls:∀ b ps,H b=some (.tbl ps)→∃ more,H' b=some (.tbl (ps++more)))
  (ns:∀ m,s.heap.Ns X.env.locals m→h'.Ns X.env.locals m) (hok:HOk X.prog X.w H' h') (hg:AllBare g') :
  Inv X pins σ H' { s with heap:=h',gens:=g',drawn:=d',toks:=t' }:=by
 have neL:∀ b o,X.s₀.heap.get? b=some o→b≠X.env.locals:=fun b o e=>Nat.ne_of_lt (Nat.lt_of_lt_of_le (Heap.lt_size e) I.ok.above);have neC:∀ b o,X.s₀.heap.get? b=some o→b∉X.ex→b∉ch:=fun b o e hx hb=>by
  rcases (hch b hb).1 with z | z
  ·exact hx z
  ·exact absurd (Nat.lt_of_lt_of_le (Heap.lt_size e) z) (Nat.lt_irrefl _)
 have cellK:∀ x c,X.env.cells.lookup x=some c→∀ v,s.heap.IsCell c v→h'.IsCell c v:=fun x c e v ⟨o,ho,hd⟩=>by
  have nch:c∉ch:=fun z=>(hch c z).2.2.1 x c e rfl
  by_cases hc:c∈X.fs
  ·obtain ⟨sl,q⟩:=slot c o (I.cne x c e) hc nch ho (I.freeC x c e);exact ⟨_,q,hd⟩
  ·exact ⟨o,keep c o (I.cne x c e) hc nch ho (I.freeC x c e),hd⟩
 refine ⟨I.ok,I.os,hg,⟨fun b o e n hb hx=>?_,fun b o e n hb hx=>?_,fun b o e n hx=>?_,fun b o e hx=>?_,fun b xs e=>tups b xs (I.base.tups b xs e),fun b o xs e=>frzs b o xs (I.base.frzs b o xs e),fun b ps e=>?_⟩,?_,fun x c e=>?_,?_,fun x c e=>?_,fun p hp=>?_,hok,I.len⟩
 ·exact keep b o (neL b o e) hb (neC b o e hx) (I.base.keep b o e n hb hx) (I.base.free b o e n hx)
 ·obtain ⟨sl,e1⟩:=I.base.slot b o e n hb hx;obtain ⟨sl',e2⟩:=slot b _ (neL b o e) hb (neC b o e hx) e1 (I.base.free b o e n hx);exact ⟨sl',e2⟩
 ·obtain ⟨o',e1⟩:=I.base.there b o e hx;exact free b o' (neC b o e hx) e1 (I.base.free b o e n hx)
 ·obtain ⟨o',e1⟩:=I.base.there b o e hx;exact there b o' (neC b o e hx) e1
 ·obtain ⟨m1,e1⟩:=I.base.tbls b ps e;obtain ⟨m2,e2⟩:=tbls b _ e1;exact ⟨m1++m2,by rw [e2,Array.append_assoc]⟩
 ·obtain ⟨m,hn,hl⟩:=I.loc;refine ⟨m,ns m hn,fun i x v e1 e2 e3=>?_⟩;obtain ⟨u,r,l⟩:=hl i x v e1 e2 e3;refine ⟨u,r,?_⟩;rcases l with l | ⟨k,c,e,z⟩
  ·exact .inl l
  ·exact .inr ⟨k,c,e,cellK x c e _ z⟩
 ·obtain ⟨v,z⟩:=I.cell x c e;exact ⟨v,cellK x c e v z⟩
 ·obtain ⟨m,⟨o,_,_,ho,_⟩,_⟩:=I.loc;exact free _ o (fun z=>(hch _ z).2.1 rfl) ho I.free
 ·obtain ⟨v,o,ho,hd⟩:=I.cell x c e;exact free c o (fun z=>(hch c z).2.2.1 x c e rfl) ho (I.freeC x c e)
 ·obtain ⟨e,n,ne,nf,d⟩:=I.pin p hp;have nch:p.1∉ch:=fun z=>(hch p.1 z).2.2.2 p hp rfl;exact ⟨keep p.1 p.2 ne nf nch e n,free p.1 p.2 nch e n,ne,nf,d⟩
theorem Inv.un {t':Nat} (I:Inv X pins σ H s) (u:Un X.fs [] H H' s.heap h') (hok:HOk X.prog X.w H' h'):Inv X pins σ H' { s with heap:=h',toks:=t' }:=by
 obtain ⟨m,⟨o,es,ep,ho,r⟩,_⟩:=id I.loc;obtain ⟨sl,hL⟩:=u.any ho I.free (by simp);exact I.step (g':=s.gens) (d':=s.drawn) (ch:=[]) (fun _ z=>nomatch z) (fun b o _ hb _ e n=>u.keep b o e n hb (by simp)) (fun b o _ hb _ e n=>u.slot b o e n hb (by simp)) (fun b o _ e n=>u.free b o e n (by simp)) (fun b o _ e=>u.there b o e (by simp)) u.tups u.frzs u.tbls (fun m' hm=>by
  obtain ⟨o',es',ep',ho',r'⟩:=hm;rw [ho] at ho';cases ho'
  exact ⟨_,es',ep',hL,r'⟩) hok I.bare
theorem Inv.call {g':Array GenState} {t':Nat} {d':Drawn} {ch:List Addr} (I:Inv X pins σ H s) (u:Un (frs X.stack) ch H H' s.heap h') (hok:HOk X.prog X.w H' h') (hg:AllBare g')
  (hch:∀ b∈ch,(b∈X.ex∨X.s₀.heap.objs.size≤b)∧b≠X.env.locals∧(∀ x c,X.env.cells.lookup x=some c→c≠b)∧∀ p∈X.pn++pins,p.1≠b) :
  Inv X pins σ H' { s with heap:=h',gens:=g',drawn:=d',toks:=t' }:=by
 obtain ⟨m,⟨o,es,ep,ho,r⟩,_⟩:=id I.loc;obtain ⟨sl,hL⟩:=u.any ho I.free fun z=>(hch _ z).2.1 rfl;exact I.step (ch:=ch) hch (fun b o hL hb hc e n=>u.keep b o e n (fun z=>(mem_cons.mp (I.stkSub b z)).elim hL hb) hc) (fun b o _ _ hc e n=>u.any e n hc) (fun b o hc e n=>u.free b o e n hc) (fun b o hc e=>u.there b o e hc) u.tups u.frzs u.tbls (fun m' hm=>by
  obtain ⟨o',es',ep',ho',r'⟩:=hm;rw [ho] at ho';cases ho'
  exact ⟨_,es',ep',hL,r'⟩) hok hg
theorem Inv.turned {t':Nat} {it:Addr} (I:Inv X pins σ H s) (k:∀ b o,b≠it→s.heap.get? b=some o→h'.get? b=some o) (hn:H it=none) (hL:it≠X.env.locals)
  (h1:it∈X.ex∨X.s₀.heap.objs.size≤it) (h2:∀ x c,X.env.cells.lookup x=some c→c≠it) (h3:∀ p∈X.pn++pins,p.1≠it):Inv X pins σ H { s with heap:=h',toks:=t' }:=by
 have nit:∀ b u,H b=some u→b≠it:=fun b u e z=>by rw [z,hn] at e;cases e
 refine I.step (g':=s.gens) (d':=s.drawn) (ch:=[it]) (fun b hb=>?_) (fun b o _ _ hc e _=>k b o (fun z=>hc (by simp [z])) e) (fun b o _ _ hc e _=>⟨o.slots,k b o (fun z=>hc (by simp [z])) e⟩) (fun _ _ _ _ n=>n)
  (fun b o hc e=>⟨o,k b o (fun z=>hc (by simp [z])) e⟩) (fun _ _ e=>e) (fun _ _ _ e=>e) (fun b ps e=>⟨#[],by rw [e];simp⟩) (fun m hm=>?_) (fun b u e=>?_) I.bare
 ·have e:b=it:=by simpa using hb
  subst e;exact ⟨h1,hL,h2,h3⟩
 ·obtain ⟨o,es,ep,ho,r⟩:=hm;exact ⟨o,es,ep,k _ o (Ne.symm hL) ho,r⟩
 ·refine (I.hok b u e).stay (fun c v hc q=>k c v ?_ q) (fun _ q=>q) fun _ _ q=>q;rcases hc with z | z
  ·rw [z];exact nit b u e
  ·exact nit c _ z
theorem Inv.tok (I:Inv X pins σ H s) (t:Nat):Inv X pins σ H { s with toks:=t }:=I.un (h':=s.heap) (t':=t) Un.refl I.hok
theorem Inv.kept {t':Nat} (I:Inv X pins σ H s) (k:∀ b u,s.heap.get? b=some u→h'.get? b=some u):Inv X pins σ H { s with heap:=h',toks:=t' }:=I.un (Un.kept k) (I.hok.kept k)
theorem Inv.laid {a:Addr} {o:HO} {t':Nat} (I:Inv X pins σ H s) (k:∀ b u,s.heap.get? b=some u→h'.get? b=some u) (hp:s.heap.objs.size≤a) (new:zbn X.prog X.w (upd H a o) h' a o) :
  Inv X pins σ (upd H a o) { s with heap:=h',toks:=t' }:=I.un (Un.laid k hp (I.hok.fresh hp)) (I.hok.laid k hp new)
theorem Inv.write {x e:Addr} {o:HO} {t':Nat} (I:Inv X pins σ H s) (mu:Mut (H x)) (he:e=x∨H e=some (.own x)) (k:∀ b u,b≠e→s.heap.get? b=some u→h'.get? b=some u) (heo:∃ u,h'.get? e=some u)
  (new:zbn X.prog X.w (upd H x o) h' x o):Inv X pins σ (upd H x o) { s with heap:=h',toks:=t' }:=I.un (Un.write mu he k heo) (I.hok.write mu he k heo new)
theorem Inv.pins_of {pins':List (Addr×Obj)} (I:Inv X pins σ H s) (h:∀ p∈pins',s.heap.get? p.1=some p.2∧H p.1=none∧p.1≠X.env.locals∧p.1∉X.fs∧∀ v,p.2.data≠.cell v):Inv X pins' σ H s :=
 ⟨I.ok,I.os,I.bare,I.base,I.loc,I.cell,I.free,I.freeC,fun p hp=>(mem_append.mp hp).elim (fun z=>I.pin p (mem_append_left _ z)) (h p),I.hok,I.len⟩
theorem zej {N:List Str} (hN:N.Nodup) {i j:Nat} {x:Str} (a:N[i]? = some x) (b:N[j]? = some x):i=j:=by
 obtain ⟨h1,e1⟩:=List.getElem?_eq_some_iff.mp a;obtain ⟨h2,e2⟩:=List.getElem?_eq_some_iff.mp b;exact (getElem_inj hN).mp (e1.trans e2.symm)
theorem zeA {M:Model} {A:Around} {E:Value→Shared→Prop} {i:Nat} {x:Str} {v:V} {u:Value} {Q:Unit→Shared→Prop} (I:Inv X pins σ H s) (hN:X.N.Nodup) (hi:X.N[i]? = some x) (hx:Loc X.env.scope x) (r:RelV v u)
  (h:∀ s',Inv X pins (σ.set i (some v)) H s'→(∃ a,Heap.SameBut a s.heap s'.heap∧(a=X.env.locals∨X.env.cells.lookup x=some a))→Q () s') (hf:X.fn x=true∨X.env.scope.names.lookup x=some .local:=by first | exact .inl rfl | exact .inr rfl | assumption):wpAny M A (storeName X.env x u) Q E s:=by
 obtain ⟨m,hn,hl⟩:=id I.loc;have hcls:(X.env.scope.kind == .class || (X.env.scope.kind == .module && X.env.locals != X.env.globals))=false:=by rw [I.ok.kind];rfl
 have hiσ:i < σ.length:=by rw [I.len];exact (List.getElem?_eq_some_iff.mp hi).1
 have cne:=I.cne;have tracked:∀ {a:Addr} {h':Heap},(∃ o,s.heap.get? a=some o∧H a=none)→Heap.SameBut a s.heap h'→HOk X.prog X.w H h':=fun {a h'} ha hs b ob e=>by
  obtain ⟨_,_,hfree⟩:=ha;refine (I.hok b ob e).stay (fun c w' hc q=>(hs.2 c ?_).trans q) (fun _ q=>q) fun _ _ q=>q;rintro rfl;rcases hc with rfl | hc
  ·rw [hfree] at e;cases e
  ·rw [hfree] at hc;cases hc
 rcases hx with hk | hk
 ·refine wpAny_storeName_local hk hn (fun h' hn' hs=>?_) hcls;obtain ⟨oL,_,_,hoL,_⟩:=id hn;refine h _ ⟨I.ok,I.os,I.bare,⟨fun b o e n hb hx=>?_,fun b o e n hb hx=>?_,I.base.free,fun b o e hx=>?_,I.base.tups,I.base.frzs,I.base.tbls⟩,⟨_,hn',fun j y v' e1 e2 e3=>?_⟩,fun y c e=>?_,I.free,I.freeC,fun p hp=>?_,tracked ⟨oL,hoL,I.free⟩ hs,by simpa using I.len⟩ ⟨_,hs,.inl rfl⟩
  ·exact (hs.2 b (Nat.ne_of_lt (Nat.lt_of_lt_of_le (Heap.lt_size e) I.ok.above))).trans (I.base.keep b o e n hb hx)
  ·obtain ⟨sl,e1⟩:=I.base.slot b o e n hb hx;exact ⟨sl,(hs.2 b (Nat.ne_of_lt (Nat.lt_of_lt_of_le (Heap.lt_size e) I.ok.above))).trans e1⟩
  ·obtain ⟨o',e1⟩:=I.base.there b o e hx;exact ⟨o',(hs.2 b (Nat.ne_of_lt (Nat.lt_of_lt_of_le (Heap.lt_size e) I.ok.above))).trans e1⟩
  ·by_cases hj:j=i
   ·subst hj;rw [hi] at e1;cases e1
    rw [List.getElem?_set_self hiσ] at e2
    cases e2
    exact ⟨u,r,.inl ⟨hk,by simp⟩⟩
   ·rw [List.getElem?_set_ne (Ne.symm hj)] at e2;obtain ⟨u',r',q⟩:=hl j y v' e1 e2 e3;refine ⟨u',r',?_⟩;rcases q with ⟨k,e⟩ | ⟨k,c,e,z⟩
    ·refine .inl ⟨k,?_⟩;have:y≠x:=fun e=>hj (zej hN e1 (e▸hi));simp [this,e]
    ·exact .inr ⟨k,c,e,z.sameBut hs (cne y c e)⟩
  ·obtain ⟨w',z⟩:=I.cell y c e;exact ⟨w',z.sameBut hs (cne y c e)⟩
  ·obtain ⟨e,n,ne,nf,d⟩:=I.pin p hp;exact ⟨(hs.2 p.1 ne).trans e,n,ne,nf,d⟩
 ·have hfn:X.fn x=true:=by
   rcases hf with z | z
   ·exact z
   ·rw [z] at hk;cases hk
  obtain ⟨c,hc⟩:=I.ok.has x (.inl hk);obtain ⟨w',z⟩:=I.cell x c hc;refine wpAny_storeName_cell I.ok.kind hk hc z (fun h' hc' hs=>?_);obtain ⟨oc,hoc,hocd⟩:=id z;refine h { s with heap:=h' } ⟨I.ok,I.os,I.bare,⟨fun b o e n hb hx=>?_,fun b o e n hb hx=>?_,I.base.free,fun b o e hx=>?_,I.base.tups,I.base.frzs,I.base.tbls⟩,⟨m,hn.sameBut hs (Ne.symm (cne x c hc)),fun j y v' e1 e2 e3=>?_⟩,fun y c' e=>?_,I.free,I.freeC,fun p hp=>?_,tracked ⟨oc,hoc,I.freeC x c hc⟩ hs,by simpa using I.len⟩ ⟨c,hs,.inr hc⟩
  ·exact (hs.2 b (Nat.ne_of_lt (Nat.lt_of_lt_of_le (Heap.lt_size e) (I.ok.cab x c hfn hc)))).trans (I.base.keep b o e n hb hx)
  ·obtain ⟨sl,e1⟩:=I.base.slot b o e n hb hx;exact ⟨sl,(hs.2 b (Nat.ne_of_lt (Nat.lt_of_lt_of_le (Heap.lt_size e) (I.ok.cab x c hfn hc)))).trans e1⟩
  ·obtain ⟨o',e1⟩:=I.base.there b o e hx;exact ⟨o',(hs.2 b (Nat.ne_of_lt (Nat.lt_of_lt_of_le (Heap.lt_size e) (I.ok.cab x c hfn hc)))).trans e1⟩
  ·by_cases hj:j=i
   ·subst hj;rw [hi] at e1;cases e1
    rw [List.getElem?_set_self hiσ] at e2
    cases e2
    exact ⟨u,r,.inr ⟨.inl hk,c,hc,hc'⟩⟩
   ·rw [List.getElem?_set_ne (Ne.symm hj)] at e2;obtain ⟨u',r',q⟩:=hl j y v' e1 e2 e3;refine ⟨u',r',?_⟩;rcases q with q | ⟨k,c',e,z'⟩
    ·exact .inl q
    ·refine .inr ⟨k,c',e,z'.sameBut hs ?_⟩;rintro rfl;exact hj (zej hN e1 (I.ok.inj _ _ _ e hc▸hi))
  ·by_cases hcc:c'=c
   ·subst hcc;exact ⟨_,hc'⟩
   ·obtain ⟨w2,z2⟩:=I.cell y c' e;exact ⟨w2,z2.sameBut hs hcc⟩
  ·obtain ⟨e,n,ne,nf,d⟩:=I.pin p hp;refine ⟨(hs.2 p.1 ?_).trans e,n,ne,nf,d⟩;intro q;rw [q,hoc] at e;have q':oc=p.2:=Option.some.inj e;exact d w' (by rw [← q'];exact hocd)
theorem zek {M:Model} {A:Around} {E:Value→Shared→Prop} {i:Nat} {x:Str} {v:V} {u:Value} {Q:Unit→Shared→Prop} (I:Inv X pins σ H s) (hN:X.N.Nodup) (hi:X.N[i]? = some x) (hx:Loc X.env.scope x) (r:RelV v u)
  (h:∀ s',Inv X pins (σ.set i (some v)) H s'→Q () s') (hf:X.fn x=true∨X.env.scope.names.lookup x=some .local:=by first | exact .inl rfl | exact .inr rfl | assumption):wpAny M A (storeName X.env x u) Q E s :=
 zeA I hN hi hx r (fun s' I' _=>h s' I') hf
theorem Inv.call' {s':Shared} {ch:List Addr} (I:Inv X pins σ H s) (ho:s'.os=s.os) (u:Un (frs X.stack) ch H H' s.heap s'.heap) (hok:HOk X.prog X.w H' s'.heap) (hg:AllBare s'.gens)
  (hch:∀ b∈ch,(b∈X.ex∨X.s₀.heap.objs.size≤b)∧b≠X.env.locals∧(∀ x c,X.env.cells.lookup x=some c→c≠b)∧∀ p∈X.pn++pins,p.1≠b):Inv X pins σ H' s':=by
 obtain ⟨h',g',d',t',o'⟩:=s';have e:o'=s.os:=ho;subst e;exact I.call (g':=g') (t':=t') (d':=d') u hok hg hch
end
abbrev XK:=Value→Option Addr→Hp→Prop
abbrev St:=List (Option V)
abbrev VK:=V→Hp→Prop
abbrev TE:=St→Hp→VK→Prop
abbrev TT:=St→Hp→(Bool→Hp→Prop)→Prop
abbrev TA:=St→Hp→(List V→Hp→Prop)→Prop
structure Ends where
 nx:St→Hp→Prop
 rt:VK
 bk:St→Hp→Prop:=fun _ _=>False
 ct:St→Hp→Prop:=fun _ _=>False
abbrev TS:=Ends→St→Hp→Prop
def EP (X:Cx) (pins:List (Addr×Obj)) (σ:St) (Q:VK) (u:Value) (s':Shared):Prop:=∃ v H',Inv X pins σ H' s'∧RelV v u∧Q v H'
def TP (X:Cx) (pins:List (Addr×Obj)) (σ:St) (Q:Bool→Hp→Prop) (b:Bool) (s':Shared):Prop:=∃ H',Inv X pins σ H' s'∧Q b H'
def AP (X:Cx) (pins:List (Addr×Obj)) (σ:St) (Q:List V→Hp→Prop) (us:List Value) (s':Shared):Prop:=∃ vs H',Inv X pins σ H' s'∧Vals vs us∧Q vs H'
def SP (X:Cx) (pins:List (Addr×Obj)) (D:Ends) (f:Flow) (s':Shared):Prop :=
 match f with
 | .next=>∃ σ' H',Inv X pins σ' H' s'∧D.nx σ' H'
 | .brk=>∃ σ' H',Inv X pins σ' H' s'∧D.bk σ' H'
 | .cont=>∃ σ' H',Inv X pins σ' H' s'∧D.ct σ' H'
 | .ret u=>∃ v σ' H',Inv X pins σ' H' s'∧RelV v u∧D.rt v H'
def PE (X:Cx) (e:Expr) (t:TE):Prop :=
 ∀ (pins:List (Addr×Obj)) (s:Shared) (σ:St) (H:Hp) (Q:VK),Inv X pins σ H s→t σ H Q→wpAny (model X.prog X.w) X.A (eval e X.env) (EP X pins σ Q) X.xe s
def PT (X:Cx) (e:Expr) (t:TT):Prop :=
 ∀ (pins:List (Addr×Obj)) (s:Shared) (σ:St) (H:Hp) (Q:Bool→Hp→Prop),Inv X pins σ H s→t σ H Q→wpAny (model X.prog X.w) X.A (isTrue e X.env (eval e X.env)) (TP X pins σ Q) X.xe s
def PW (X:Cx) (e:Expr) (t:TT):Prop :=
 ∀ (whole:Sem Value) (pins:List (Addr×Obj)) (s:Shared) (σ:St) (H:Hp) (Q:Bool→Hp→Prop),Inv X pins σ H s→t σ H Q→wpAny (model X.prog X.w) X.A (isTrue e X.env whole) (TP X pins σ Q) X.xe s
theorem PW.pt {X:Cx} {e:Expr} {t:TT} (h:PW X e t):PT X e t:=h _
def PA (X:Cx) (es:List Expr) (t:TA):Prop :=
 ∀ (pos:Pos) (pins:List (Addr×Obj)) (s:Shared) (σ:St) (H:Hp) (Q:List V→Hp→Prop),Inv X pins σ H s→t σ H Q→wpAny (model X.prog X.w) X.A (spliced (backTo pos (starEach es X.env))) (AP X pins σ Q) X.xe s
def PS (X:Cx) (st:Stmt) (t:TS):Prop :=
 ∀ (pins:List (Addr×Obj)) (s:Shared) (σ:St) (H:Hp) (D:Ends),Inv X pins σ H s→t D σ H→wpAny (model X.prog X.w) X.A (exec st X.env) (SP X pins D) X.xe s
def PSs (X:Cx) (st:List Stmt) (t:TS):Prop :=
 ∀ (pins:List (Addr×Obj)) (s:Shared) (σ:St) (H:Hp) (D:Ends),Inv X pins σ H s→t D σ H→wpAny (model X.prog X.w) X.A (execs st X.env) (SP X pins D) X.xe s
theorem thn {α:Type} {t:Sem α} {Q Q':α→Shared→Prop} {M:Model} {A:Around} {E:Value→Shared→Prop} {s:Shared} (h:wpAny M A t Q E s) (hQ:∀ a s,Q a s→Q' a s):wpAny M A t Q' E s:=wpAny_mono h hQ fun _ _ x=>x
end L2
namespace L2
open PySem PySem.Spec PyProof.Rows
section
variable {X:Cx}
def tVar (i:Nat):TE:=fun σ H Q=>∃ v,σ[i]? = some (some v)∧Q v H
def tC (v:V):TE:=fun _ H Q=>Q v H
theorem zkj {i:Nat} {x:Str} {pos:Pos} (hN:X.N[i]? = some x) (hv:Vis X.env.scope x) (hd:(x == ("__debug__" : Str))=false:=by decide) (hcd:(x == ("__classdict__" : Str))=false:=by decide):PE X (.Name x pos) (tVar i):=by
 intro pins s σ H Q I h;obtain ⟨v,e,h⟩:=h;obtain ⟨m,hn,hl⟩:=I.loc;obtain ⟨u,r,l⟩:=hl i x v hN e hv;have fin:EP X pins σ Q u s:=⟨v,H,I,r,h⟩
 rcases l with ⟨hk,hm⟩ | ⟨hk,c,hc,hcell⟩
 ·exact wpAny_Name (wpAny_loadName_local I.ok.kind hk hn hm fin) hd
 ·rcases hk with hk | hk
  ·exact wpAny_Name (wpAny_loadName_cell I.ok.kind hk hc hcell fin) hd
  ·exact wpAny_Name (wpAny_loadName_free I.ok.kind hk hc hcell fin hcd) hd
theorem zab {i j pos}:PE X (.Constant (.int i) j pos) (tC (.int i)):=fun _ _ _ H _ I h=>wpAny_Constant_int ⟨.int i,H,I.tok _,⟨_,rfl⟩,h⟩
theorem zb4 {b j pos}:PE X (.Constant (.bool b) j pos) (tC (.bl b)):=fun _ _ _ H _ I h=>Constant_bool ⟨.bl b,H,I,rfl,h⟩
theorem zfV {j pos}:PE X (.Constant .none j pos) (tC .non):=fun _ _ _ H _ I h=>Constant_none ⟨.non,H,I,rfl,h⟩
theorem zkk {x j pos}:PE X (.Constant (.str x) j pos) (tC (.str x)):=fun _ _ _ H _ I h=>Calls.Constant_str ⟨.str x,H,I.tok _,⟨_,rfl⟩,h⟩
def Gl (X:Cx) (x:Str):Prop:=X.env.kindOf x=some .globalImplicit
theorem zcH {E:Value→Shared→Prop} {pins:List (Addr×Obj)} {s:Shared} {σ:St} {H:Hp} {x:Str} {u:Value} {pos:Pos} {Q:Value→Shared→Prop} (I:Inv X pins σ H s) (hg:Gl X x) (hm:X.mg x=some u) (h:Q u s)
  (hd:(x == ("__debug__" : Str))=false:=by decide):wpAny (model X.prog X.w) X.A (eval (.Name x pos) X.env) Q E s :=
 Calls.Name_function_global I.ok.kind hg (Calls.loadGlobal_global (by rw [I.ok.glob];exact I.mod.glob.keeps I.bk) hm h) hd
theorem zdv {E:Value→Shared→Prop} {pins:List (Addr×Obj)} {s:Shared} {σ:St} {H:Hp} {x:Str} {u:Value} {pos:Pos} {Q:Value→Shared→Prop} (I:Inv X pins σ H s) (hg:Gl X x) (hm:X.mg x=none) (hv:bootBuiltins x=some u) (h:Q u s)
  (hn:x≠"__name__":=by decide) (hd:(x == ("__debug__" : Str))=false:=by decide):wpAny (model X.prog X.w) X.A (eval (.Name x pos) X.env) Q E s:=by
 obtain ⟨mb,h1,h2⟩:=I.mod.blt;exact Calls.Name_function_global I.ok.kind hg (Calls.loadGlobal_builtin (by rw [I.ok.glob];exact I.mod.glob.keeps I.bk) hm (by rw [I.ok.blt];exact h1.keeps I.bk) ((h2 x hn).trans hv) h) hd
theorem zbv {x:Str} {v:V} {u:Value} {pos:Pos} (hg:Gl X x) (hm:X.mg x=some u) (r:RelV v u) (hd:(x == ("__debug__" : Str))=false:=by decide):PE X (.Name x pos) (tC v) :=
 fun _ _ _ H _ I h=>zcH I hg hm ⟨v,H,I,r,h⟩ hd
theorem zdw {x:Str} {v:V} {u:Value} {pos:Pos} (hg:Gl X x) (hm:X.mg x=none) (hv:bootBuiltins x=some u) (r:RelV v u) (hn:x≠"__name__":=by decide) (hd:(x == ("__debug__" : Str))=false:=by decide):PE X (.Name x pos) (tC v) :=
 fun _ _ _ H _ I h=>zdv I hg hm hv ⟨v,H,I,r,h⟩ hn hd
variable {a b:Expr} {ta tb:TE} {pos:Pos}
def PC (X:Cx) (op:CmpOp) (a b:Expr) (t:TE):Prop :=
 ∀ (pins:List (Addr×Obj)) (s:Shared) (σ:St) (H:Hp) (Q:VK),Inv X pins σ H s→t σ H Q →
  wpAny (model X.prog X.w) X.A (eval a X.env) (fun v s₁=>wpAny (model X.prog X.w) X.A (eval b X.env) (fun u s₂=>wpAny (model X.prog X.w) X.A (compareOp op v u) (EP X pins σ Q) X.xe s₂) X.xe s₁) X.xe s
theorem zik (b:Expr) {op:CmpOp} (h:op≠.In) (h2:op≠.NotIn):behindInMarks op b=false:=by
 have e1:(op == CmpOp.In)=false:=by cases op <;> first | rfl | exact absurd rfl h
 have e2:(op == CmpOp.NotIn)=false:=by cases op <;> first | rfl | exact absurd rfl h2
 cases b <;> simp [behindInMarks,e1,e2]
def tB (t:TE):TT:=fun σ H Q=>t σ H fun x H1=>∃ c,x=.bl c∧Q c H1
theorem zja {op:CmpOp} {t:TE} (h:PC X op a b t) (h1:behindInMarks op b=false:=by first | exact zik _ (by decide) (by decide) | rfl):PT X (.Compare a [op] [b] pos) (tB t):=by
 intro pins s σ H Q I hw;refine wpAny_isTrue_Compare1 (thn (h pins s σ H _ I hw) fun v s1 h1=>thn h1 fun u s2 h2=>thn h2 fun c s3 ⟨x,H1,I1,r1,q1⟩=>?_) h1;obtain ⟨d,rfl,q⟩:=q1
 cases r1
 exact wpAny_truthy_bool ⟨H1,I1,q⟩
variable {tA tB':TT} {rest:List Expr}
def tAnd (t u:TT):TT:=fun σ H Q=>t σ H fun c H1=>if c=true then u σ H1 Q else Q false H1
def tOr (t u:TT):TT:=fun σ H Q=>t σ H fun c H1=>if c=true then Q true H1 else u σ H1 Q
def tNot (t:TT):TT:=fun σ H Q=>t σ H fun c H1=>Q (!c) H1
theorem zcj (ha:PT X a tA):PW X (.BoolOp .And [a] pos) tA:=by
 intro wh pins s σ H Q I h;refine isTrue_and (thn (ha pins s σ H Q I h) fun c s1 e=>?_)
 cases c with
 | true=>exact isTrue_and_nil e
 | false=>exact e
theorem zdx (ha:PT X a tA):PW X (.BoolOp .Or [a] pos) tA:=by
 intro wh pins s σ H Q I h;refine isTrue_or (thn (ha pins s σ H Q I h) fun c s1 e=>?_)
 cases c with
 | false=>exact isTrue_or_nil e
 | true=>exact e
theorem zdf (ha:PT X a tA) (hb:PW X (.BoolOp .And (b::rest) pos) tB'):PW X (.BoolOp .And (a::b::rest) pos) (tAnd tA tB'):=by
 intro wh pins s σ H Q I h;refine isTrue_and (thn (ha pins s σ H _ I h) fun c s1 ⟨H1,I1,q1⟩=>?_)
 cases c with
 | true=>exact hb wh pins s1 σ H1 Q I1 q1
 | false=>exact ⟨H1,I1,q1⟩
theorem zfo (ha:PT X a tA) (hb:PW X (.BoolOp .Or (b::rest) pos) tB'):PW X (.BoolOp .Or (a::b::rest) pos) (tOr tA tB'):=by
 intro wh pins s σ H Q I h;refine isTrue_or (thn (ha pins s σ H _ I h) fun c s1 ⟨H1,I1,q1⟩=>?_)
 cases c with
 | true=>exact ⟨H1,I1,q1⟩
 | false=>exact hb wh pins s1 σ H1 Q I1 q1
theorem zdg (ha:PT X a tA):PT X (.UnaryOp .Not a pos) (tNot tA):=by
 intro pins s σ H Q I h;exact isTrue_not (ha pins s σ H (fun c H1=>Q (!c) H1) I h)
def zkl (ta tb:TE):TE:=fun σ H Q=>ta σ H fun x H1=>∃ c,x=.bl c∧if c=true then tb σ H1 Q else Q (.bl false) H1
def tOrV (ta tb:TE):TE:=fun σ H Q=>ta σ H fun x H1=>∃ c,x=.bl c∧if c=true then Q (.bl true) H1 else tb σ H1 Q
def zkm (ta:TE):TE:=fun σ H Q=>ta σ H fun x H1=>∃ c,x=.bl c∧Q (.bl (!c)) H1
theorem zeB {op} {t:TE} (h:PE X a t):PE X (.BoolOp op [a] pos) t:=fun pins s σ H Q I hw=>BoolOp_one (h pins s σ H Q I hw)
theorem zfW (ha:PE X a ta) (hb:PE X (.BoolOp .And (b::rest) pos) tb):PE X (.BoolOp .And (a::b::rest) pos) (zkl ta tb):=by
 intro pins s σ H Q I h;refine BoolOp_and (thn (ha pins s σ H _ I h) fun v s1 ⟨x,H1,I1,r1,q1⟩=>?_);obtain ⟨c,rfl,q1⟩:=q1
 cases r1
 refine wpAny_truthy_bool ?_
 cases c with
 | true=>exact hb pins s1 σ H1 Q I1 q1
 | false=>exact ⟨.bl false,H1,I1,rfl,q1⟩
theorem zlC (ha:PE X a ta) (hb:PE X (.BoolOp .Or (b::rest) pos) tb):PE X (.BoolOp .Or (a::b::rest) pos) (tOrV ta tb):=by
 intro pins s σ H Q I h;refine BoolOp_or (thn (ha pins s σ H _ I h) fun v s1 ⟨x,H1,I1,r1,q1⟩=>?_);obtain ⟨c,rfl,q1⟩:=q1
 cases r1
 refine wpAny_truthy_bool ?_
 cases c with
 | false=>exact hb pins s1 σ H1 Q I1 q1
 | true=>exact ⟨.bl true,H1,I1,rfl,q1⟩
theorem zjb (ha:PE X a ta):PE X (.UnaryOp .Not a pos) (zkm ta):=by
 intro pins s σ H Q I h;refine UnaryOp_ (thn (ha pins s σ H _ I h) fun v s1 ⟨x,H1,I1,r1,q1⟩=>?_);obtain ⟨c,rfl,q1⟩:=q1
 cases r1
 exact not_of (wpAny_truthy_bool ⟨.bl (!c),H1,I1,rfl,q1⟩)
end
end L2
namespace L2
open PySem PySem.Spec PyProof.Rows
def SqL (K:PySem.W.Frag) (H:Hp) (a:Addr) (xs:List V):Prop :=
 Rd H a (.lst xs) ∨
  ∃ (o:Obj) (its:Array Value) (n:Nat),K.lookup a=some o∧o.cls=.type "list"∧o.dict=none∧o.data=.seq its n∧its.size≤sizeLine∧Vals xs its.toList
def SqT (K:PySem.W.Frag) (H:Hp) (a:Addr) (xs:List V):Prop :=
 Rd H a (.tup xs) ∨
  ∃ (o:Obj) (its:Array Value) (n:Nat),K.lookup a=some o∧o.cls=.type "tuple"∧o.data=.seq its n∧its.size≤sizeLine∧Vals xs its.toList
def absV:Value→Option V
 | .none=>some .non
 | .bool b=>some (.bl b)
 | .int i _=>some (.int i)
 | .str x _=>some (.str x)
 | .bytes b _=>some (.byt b)
 | .float b _=>some (.flt b)
 | .ref a=>some (.ref a)
 | .type n=>some (.ty n)
 | _=>none
theorem RelV.abs {x:V} {u:Value} (r:RelV x u):absV u=some x:=by
 cases x with
 | non=>cases r;rfl
 | bl _=>cases r;rfl
 | int _=>obtain ⟨t,rfl⟩:=r;rfl
 | str _=>obtain ⟨t,rfl⟩:=r;rfl
 | byt _=>obtain ⟨t,rfl⟩:=r;rfl
 | flt _=>obtain ⟨t,rfl⟩:=r;rfl
 | ref _=>cases r;rfl
 | ty _=>cases r;rfl
theorem RelV.inj {x y:V} {u:Value} (r:RelV x u) (q:RelV y u):x=y:=Option.some.inj (r.abs.symm.trans q.abs)
theorem Vals.inj:∀ {xs ys:List V} {us:List Value},Vals xs us→Vals ys us→xs=ys
 | _,_,_,.nil,.nil=>rfl
 | _,_,_,.cons r t,.cons r' t'=>by rw [r.inj r',Vals.inj t t']
section
variable {X:Cx} {pins:List (Addr×Obj)} {σ:St} {H:Hp} {s:Shared} {a:Addr} {xs ys:List V}
theorem SqL.of {K:PySem.W.Frag} (h:H a=some (.lst xs)):SqL K H a xs:=.inl (.inl h)
theorem SqT.of {K:PySem.W.Frag} (h:H a=some (.tup xs)):SqT K H a xs:=.inl (.inl h)
theorem Inv.list (I:Inv X pins σ H s) (h:SqL X.K H a xs):∃ its:List Value,Vals xs its∧PlainL s.heap a its.toArray∧xs.length≤sizeLine:=by
 rcases h with h | ⟨o,its,n,hk,hc,hd,hs,hz,r⟩
 ·obtain ⟨z,its,n,r,e⟩:=h.ok I.hok;exact ⟨its,r,⟨_,n,e,rfl,rfl,rfl⟩,z⟩
 ·refine ⟨its.toList,r,⟨o,n,I.kIn a o hk,hc,hd,by simpa using hs⟩,?_⟩;have e:=r.length;simp only [Array.length_toList] at e;omega
theorem Inv.tuple (I:Inv X pins σ H s) (h:SqT X.K H a xs):∃ its:List Value,Vals xs its∧IsTup s.heap a its.toArray∧xs.length≤sizeLine:=by
 rcases h with h | ⟨o,its,n,hk,hc,hs,hz,r⟩
 ·obtain ⟨z,its,r,p⟩:=h.ok I.hok;exact ⟨its,r,p,z⟩
 ·refine ⟨its.toList,r,⟨o,I.kIn a o hk,hc,n,by simpa using hs⟩,?_⟩;have e:=r.length;simp only [Array.length_toList] at e;omega
theorem Inv.list_inj (I:Inv X pins σ H s) (h:SqL X.K H a xs) (h':SqL X.K H a ys):xs=ys:=by
 obtain ⟨its,r,⟨o,n,e,_,_,d⟩,_⟩:=I.list h;obtain ⟨its',r',⟨o',n',e',_,_,d'⟩,_⟩:=I.list h';rw [e] at e';cases e'
 rw [d] at d';injection d' with d1 _;have:its=its':=by simpa using congrArg Array.toList d1
 subst this;exact r.inj r'
end
abbrev Cx.wish (X:Cx) (E:Value→Shared→Prop):Cx:={ X with xe:=E }
abbrev Cx.nox (X:Cx):Cx:=X.wish fun _ _=>False
theorem Cx.Ok.wish {X:Cx} (ok:X.Ok) (E:Value→Shared→Prop):(X.wish E).Ok :=
 ⟨ok.mod,ok.kind,ok.glob,ok.blt,ok.above,ok.inj,ok.has,ok.cab,ok.hd,ok.frames,ok.stk,ok.exf,ok.bs,ok.bsz,ok.noex,ok.exfs,ok.funs,ok.frf⟩
theorem Cx.Ok.unwish {X:Cx} {E:Value→Shared→Prop} (ok:(X.wish E).Ok):X.Ok :=
 ⟨ok.mod,ok.kind,ok.glob,ok.blt,ok.above,ok.inj,ok.has,ok.cab,ok.hd,ok.frames,ok.stk,ok.exf,ok.bs,ok.bsz,ok.noex,ok.exfs,ok.funs,ok.frf⟩
section
variable {X:Cx} {pins:List (Addr×Obj)} {σ:St} {H:Hp} {s:Shared} {E:Value→Shared→Prop}
theorem Inv.wish (I:Inv X pins σ H s) (E:Value→Shared→Prop):Inv (X.wish E) pins σ H s:=⟨I.ok.wish E,I.os,I.bare,I.base,I.loc,I.cell,I.free,I.freeC,I.pin,I.hok,I.len⟩
theorem Inv.unwish (I:Inv (X.wish E) pins σ H s):Inv X pins σ H s:=⟨I.ok.unwish,I.os,I.bare,I.base,I.loc,I.cell,I.free,I.freeC,I.pin,I.hok,I.len⟩
theorem SP.unwish {D:Ends} {f:Flow} {s':Shared} (h:SP (X.wish E) pins D f s'):SP X pins D f s':=by
 cases f with
 | next=>obtain ⟨σ',H',I,q⟩:=h;exact ⟨σ',H',I.unwish,q⟩
 | brk=>obtain ⟨σ',H',I,q⟩:=h;exact ⟨σ',H',I.unwish,q⟩
 | cont=>obtain ⟨σ',H',I,q⟩:=h;exact ⟨σ',H',I.unwish,q⟩
 | ret u=>obtain ⟨v,σ',H',I,r,q⟩:=h;exact ⟨v,σ',H',I.unwish,r,q⟩
theorem PSs.nox {st:List Stmt} {t:TS} (h:PSs X.nox st t):PSs X st t:=fun pins s σ H D I hw =>
 wpAny_mono (h pins s σ H D (I.wish _) hw) (fun _ _ q=>q.unwish) fun _ _ z=>False.elim z
end
section
variable {X:Cx} {st:Stmt} {rest:List Stmt} {t u:TS} {e:Expr} {te:TE} {pos:Pos}
def tNext:TS:=fun D σ H=>D.nx σ H
def tSeq (t u:TS):TS:=fun D σ H=>t { D with nx:=u D } σ H
theorem pss_nil:PSs X [] tNext:=fun _ _ σ H _ I h=>wpAny_execs_nil ⟨σ,H,I,h⟩
theorem zad (h1:PS X st t) (h2:PSs X rest u):PSs X (st::rest) (tSeq t u):=by
 intro pins s σ H D I h;refine wpAny_execs_cons (thn (h1 pins s σ H { D with nx:=u D } I h) fun f s1 q=>?_)
 cases f with
 | next =>
   obtain ⟨σ',H',I',q⟩:=q;exact h2 pins s1 σ' H' D I' q
 | ret v=>exact q
 | brk=>exact q
 | cont=>exact q
theorem zae (h1:PS X st t):PSs X [st] t:=by
 intro pins s σ H D I h;refine wpAny_execs_cons (thn (h1 pins s σ H D I h) fun f s1 q=>?_)
 cases f with
 | next=>exact wpAny_execs_nil q
 | ret v=>exact q
 | brk=>exact q
 | cont=>exact q
def tCont:TS:=fun D σ H=>D.ct σ H
theorem ps_continue:PS X (.Continue pos) tCont:=fun _ _ σ H _ I h=>wpAny_Continue ⟨σ,H,I,h⟩
theorem Inv.quiet {pins:List (Addr×Obj)} {σ:St} {H:Hp} {s:Shared} (I:Inv X pins σ H s):interactive X.env=false:=by simp [interactive,I.ok.kind]
def zkn (te:TE):TS:=fun D σ H=>te σ H fun _ H1=>D.nx σ H1
theorem zaE (he:PE X e te) (hs:swapsWith e none pos.line X.env=pure false:=by rfl):PS X (.Expr e pos) (zkn te):=by
 intro pins s σ H D I h;exact wpAny_Expr_any (thn (he pins s σ H _ I h) fun v s1 ⟨x,H1,I1,r1,q1⟩=>⟨σ,H1,I1,q1⟩) I.quiet hs
def tRet (te:TE):TS:=fun D σ H=>te σ H D.rt
theorem zan (he:PE X e te):PS X (.Return (some e) pos) (tRet te):=by
 intro pins s σ H D I h;exact wpAny_Return_some (thn (he pins s σ H _ I h) fun v s1 ⟨x,H1,I1,r1,q1⟩=>⟨x,σ,H1,I1,r1,q1⟩)
def tIfS (c:TT) (t u:TS):TS:=fun D σ H=>c σ H fun b H1=>if b=true then t D σ H1 else u D σ H1
theorem zaY {c:Expr} {a b:List Stmt} {tc:TT} (hc:PT X c tc) (ha:PSs X a t) (hb:PSs X b u):PS X (.If c a b pos) (tIfS tc t u):=by
 intro pins s σ H D I h;refine wpAny_If (thn (hc pins s σ H _ I h) fun d s1 ⟨H1,I1,q1⟩=>?_)
 cases d with
 | true=>exact ha pins s1 σ H1 D I1 q1
 | false=>exact hb pins s1 σ H1 D I1 q1
end
abbrev TG:=V→St→Hp→(St→Hp→Prop)→Prop
abbrev TGs:=List V→St→Hp→(St→Hp→Prop)→Prop
def PG (X:Cx) (target:Expr) (t:TG):Prop :=
 ∀ (pins:List (Addr×Obj)) (s:Shared) (σ:St) (H:Hp) (v:V) (u:Value) (Q:St→Hp→Prop),Inv X pins σ H s→RelV v u→t v σ H Q →
  wpAny (model X.prog X.w) X.A (assign target X.env u) (fun _ s'=>∃ σ' H',Inv X pins σ' H' s'∧Q σ' H') X.xe s
def PGs (X:Cx) (ts:List Expr) (t:TGs):Prop :=
 ∀ (pins:List (Addr×Obj)) (s:Shared) (σ:St) (H:Hp) (vs:List V) (us:List Value) (Q:St→Hp→Prop),Inv X pins σ H s→Vals vs us→t vs σ H Q →
  wpAny (model X.prog X.w) X.A (assignInOrder ((assignEach ts X.env).map (·.2)) us) (fun _ s'=>∃ σ' H',Inv X pins σ' H' s'∧Q σ' H') X.xe s
abbrev TSet:=V→V→V→Hp→(Hp→Prop)→Prop
def PSet (X:Cx) (t:TSet):Prop :=
 ∀ (pins:List (Addr×Obj)) (s:Shared) (σ:St) (H:Hp) (o i v:V) (ov iv u:Value) (Q:Hp→Prop),Inv X pins σ H s→RelV o ov→RelV i iv→RelV v u→t o i v H Q →
  wpAny (model X.prog X.w) X.A (setItem ov iv u) (fun _ s'=>∃ H',Inv X pins σ H' s'∧Q H') X.xe s
abbrev TIp:=V→V→Hp→VK→Prop
def PIp (X:Cx) (op:Operator) (t:TIp):Prop :=
 ∀ (pins:List (Addr×Obj)) (s:Shared) (σ:St) (H:Hp) (x y:V) (v u:Value) (Q:VK),Inv X pins σ H s→RelV x v→RelV y u→t x y H Q →
  wpAny (model X.prog X.w) X.A (inplaceOp op v u) (EP X pins σ Q) X.xe s
section
variable {X:Cx} {pos:Pos}
def zcg (i:Nat):TG:=fun v σ H Q=>Q (σ.set i (some v)) H
theorem zaC {i:Nat} {x:Str} (hN:X.N.Nodup) (hi:X.N[i]? = some x) (hx:Loc X.env.scope x) (hf:X.fn x=true∨X.env.scope.names.lookup x=some .local:=by first | exact .inl rfl | exact .inr rfl | assumption):PG X (.Name x pos) (zcg i):=by
 intro pins s σ H v u Q I r h;exact wpAny_assign_Name (zek I hN hi hx r (fun s' I'=>⟨_,H,I',h⟩) hf)
def gNil:TGs:=fun vs σ H Q=>vs=[]∧Q σ H
def zfp (t:TG) (u:TGs):TGs:=fun vs σ H Q=>∃ v r,vs=v::r∧t v σ H fun σ' H'=>u r σ' H' Q
theorem pgs_nil:PGs X [] gNil:=by
 intro pins s σ H vs us Q I r h;obtain ⟨e,h⟩:=h;subst e
 cases r
 exact assignInOrder_nil ⟨σ,H,I,h⟩
theorem zct {e:Expr} {es:List Expr} {t:TG} {u:TGs} (h1:PG X e t) (h2:PGs X es u)
  (hs:(assignEach (e::es) X.env).map (·.2)=assign e X.env::(assignEach es X.env).map (·.2):=by rfl):PGs X (e::es) (zfp t u):=by
 intro pins s σ H vs us Q I r h;obtain ⟨v,vr,e1,h⟩:=h;subst e1
 cases r with
 | cons r rr =>
   rw [hs];refine assignInOrder_cons (thn (h1 pins s σ H _ _ _ I r h) fun _ s1 ⟨σ1,H1,I1,q1⟩=>?_);exact h2 pins s1 σ1 H1 _ _ Q I1 rr q1
def gTup (K:PySem.W.Frag) (n:Nat) (t:TGs):TG:=fun v σ H Q=>∃ a xs,v=.ref a∧SqT K H a xs∧xs.length=n∧t xs σ H Q
theorem zko {es:List Expr} {k:Nat} {t:TGs} {n:Nat} (hc:X.calm=true) (h:PGs X es t)
  (hn:(assignEach es X.env).length=n:=by rfl) (hst:(assignEach es X.env).findIdx? (·.1)=none:=by rfl):PG X (.Tuple es k pos) (gTup X.K n t):=by
 intro pins s σ H v u Q I r hw;obtain ⟨a,xs,e1,hq,hl,hw⟩:=hw;subst e1
 cases r
 obtain ⟨its,rv,ht,hz⟩:=I.tuple hq;refine assign_Tuple_tuple (I.ok.hd hc) ht (by simp [hn,← hl,rv.length]) hst fun h' hx=>?_;have I1:Inv X pins σ H { s with heap:=h' }:=I.kept (t':=s.toks) fun b o e=>hx b o (Nat.ne_of_lt (Heap.lt_size e)) e;exact h pins _ σ H xs _ Q I1 (by simpa using rv) hw
def tAsg (te:TE) (g:TG):TS:=fun D σ H=>te σ H fun x H1=>g x σ H1 D.nx
theorem zaU {i:Nat} {x:Str} {e:Expr} {te:TE} {pos':Pos} (hN:X.N.Nodup) (hi:X.N[i]? = some x) (hx:Loc X.env.scope x) (he:PE X e te) (hs:swapsWith e (some (.Name x pos')) pos.line X.env=pure false:=by rfl) (hf:X.fn x=true∨X.env.scope.names.lookup x=some .local:=by first | exact .inl rfl | exact .inr rfl | assumption) :
  PS X (.Assign [.Name x pos'] e pos) (tAsg te (zcg i)):=by
 intro pins s σ H D I h;refine wpAny_Assign_Name (thn (he pins s σ H _ I h) fun v s1 ⟨y,H1,I1,r1,q1⟩=>?_) hs;exact zek I1 hN hi hx r1 (fun s2 I2=>⟨_,H1,I2,q1⟩) hf
def zkp (to ti te:TE) (tget:V→V→Hp→VK→Prop) (tip:TIp) (tset:TSet):TS:=fun D σ H=>to σ H fun o H1=>ti σ H1 fun i H2=>tget o i H2 fun x H3=>te σ H3 fun y H4=>tip x y H4 fun z H5=>tset o i z H5 fun H6=>D.nx σ H6
def PGet (X:Cx) (t:V→V→Hp→VK→Prop):Prop :=
 ∀ (pins:List (Addr×Obj)) (s:Shared) (σ:St) (H:Hp) (o i:V) (ov iv:Value) (Q:VK),Inv X pins σ H s→RelV o ov→RelV i iv→t o i H Q →
  wpAny (model X.prog X.w) X.A (getItem ov iv) (EP X pins σ Q) X.xe s
theorem zju {o i e:Expr} {to ti te:TE} {tget:V→V→Hp→VK→Prop} {tip:TIp} {tset:TSet} {op:Operator} {tpos:Pos} (ho:PE X o to) (hi:PE X i ti) (hg:PGet X tget) (he:PE X e te) (hp:PIp X op tip) (hs:PSet X tset)
  (ha:∀ ov iv new,augStore i ov iv new=(do holding [new,ov,iv] (setItem ov iv new);release [new,ov,iv] [];pure .next):=by intros;rfl):PS X (.AugAssign (.Subscript o i tpos) op e pos) (zkp to ti te tget tip tset):=by
 intro pins s σ H D I h;refine wpAny_AugAssign_SubscriptAny (thn (ho pins s σ H _ I h) fun ov s1 ⟨x1,H1,I1,r1,q1⟩=>?_) ha;refine thn (hi pins s1 σ H1 _ I1 q1) fun iv s2 ⟨x2,H2,I2,r2,q2⟩=>?_;refine thn (hg pins s2 σ H2 x1 x2 ov iv _ I2 r1 r2 q2) fun old s3 ⟨x3,H3,I3,r3,q3⟩=>?_;refine thn (he pins s3 σ H3 _ I3 q3) fun v s4 ⟨x4,H4,I4,r4,q4⟩=>?_;refine thn (hp pins s4 σ H4 x3 x4 old v _ I4 r3 r4 q4) fun new s5 ⟨x5,H5,I5,r5,q5⟩=>?_;exact thn (hs pins s5 σ H5 x1 x2 x5 ov iv new _ I5 r1 r2 r5 q5) fun _ s6 ⟨H6,I6,q6⟩=>⟨σ,H6,I6,q6⟩
def ipI (f:Int→Int→Int):TIp:=fun x y H Q=>∃ i j,x=.int i∧y=.int j∧Q (.int (f i j)) H
theorem ip_sub:PIp X .Sub (ipI fun i j=>i-j):=by
 intro pins s σ H x y v u Q I r1 r2 h;obtain ⟨i,j,e1,e2,q⟩:=h;subst e1;subst e2;obtain ⟨t,rfl⟩:=r1;obtain ⟨t',rfl⟩:=r2;exact isub_int ⟨.int _,H,I.tok _,⟨_,rfl⟩,q⟩
end
section
variable {X:Cx} {pos:Pos}
def zkq (c:TT) (tb:TS):TS:=fun D σ H=>∃ W:Nat→St→Hp→Prop,(∃ m,W m σ H)∧∀ m σ H,W m σ H →
 c σ H fun b H1=>if b=true then ∃ N:St→Hp→Prop,(∀ σ' H',N σ' H'→∃ m',m' < m∧W m' σ' H')∧tb { D with nx:=N,ct:=N,bk:=D.nx } σ H1 else D.nx σ H1
theorem zil {c:Expr} {body:List Stmt} {tc:TT} {tb:TS} (hp:PassesOwn (model X.prog X.w) X.A X.env X.xe) (hc:PT X c tc) (hb:PSs X body tb):PS X (.While c body [] pos) (zkq tc tb):=by
 intro pins s σ H D I h;obtain ⟨W,⟨m0,w0⟩,turn⟩:=h;refine wpAny_While (codeAny_whileLoop (fun n s'=>∃ σ' H',Inv X pins σ' H' s'∧W n σ' H') ?_ m0 ⟨σ,H,I,w0⟩);rintro n s1 ⟨σ1,H1,I1,w1⟩;refine wpAny_passesOwn hp (thn (hc pins s1 σ1 H1 _ I1 (turn n σ1 H1 w1)) fun b s2 ⟨H2,I2,q2⟩=>?_)
 cases b with
 | true =>
   obtain ⟨N,hN,q2⟩:=q2;rw [if_pos rfl];refine wpAny_passesOwn hp (thn (hb pins s2 σ1 H2 _ I2 q2) fun f s3 q3=>?_)
   cases f with
   | next =>
     obtain ⟨σ3,H3,I3,n3⟩:=q3;obtain ⟨m',hm,w3⟩:=hN σ3 H3 n3;exact ⟨m',hm,σ3,H3,I3,w3⟩
   | cont =>
     obtain ⟨σ3,H3,I3,n3⟩:=q3;obtain ⟨m',hm,w3⟩:=hN σ3 H3 n3;exact ⟨m',hm,σ3,H3,I3,w3⟩
   | brk=>exact q3
   | ret v=>exact q3
 | false =>
   rw [if_neg Bool.false_ne_true];exact wpAny_execs_nil ⟨σ1,H2,I2,q2⟩
end
structure It where
 go:Nat→Hp→Prop
 yld:Nat→Hp→V→Hp→Prop
 stop:Nat→Hp→Prop
def FpOk (X:Cx) (pins:List (Addr×Obj)) (H:Hp) (b:Addr):Prop :=
 H b=none∧b≠X.env.locals∧b∉X.fs∧(b∈X.ex∨X.s₀.heap.objs.size≤b)∧(∀ x c,X.env.cells.lookup x=some c→c≠b)∧∀ p∈X.pn++pins,p.1≠b
theorem Inv.fpOk {X:Cx} {pins:List (Addr×Obj)} {σ:St} {H H':Hp} {s:Shared} {b:Addr} (I:Inv X pins σ H s) (hb:s.heap.objs.size≤b) (hn:H' b=none):FpOk X pins H' b:=by
 refine ⟨hn,Nat.ne_of_gt (Nat.lt_of_lt_of_le I.lt hb),I.nofs hb,.inr (Nat.le_trans I.sz hb),fun x c e z=>?_,fun p hp z=>?_⟩
 ·obtain ⟨v,q⟩:=I.cell x c e;exact absurd (Nat.lt_of_lt_of_le q.lt (by rw [z];exact hb)) (Nat.lt_irrefl _)
 ·exact absurd (Nat.lt_of_lt_of_le (Heap.lt_size (I.pin p hp).1) (by rw [z];exact hb)) (Nat.lt_irrefl _)
structure Turn (P:Program) (w:World) (K:PySem.W.Frag) (tg:Expr) (J:It) (fp:List Addr) (it:Addr) (tn:Nat→Heap→Prop):Prop where
 mem:it∈fp
 obj:∀ i h,tn i h→∀ b∈fp,∃ o,h.get? b=some o∧∀ v,o.data≠.cell v
 keep:∀ i h h',tn i h→(∀ b∈fp,∀ o,h.get? b=some o→h'.get? b=some o)→tn i h'
 item:∀ (X:Cx),X.prog=P→X.w=w→X.K=K→X.calm=true→∀ (i:Nat) (pins:List (Addr×Obj)) (s:Shared) (σ:St) (H:Hp) (E:Value→Shared→Prop),Inv X pins σ H s→(∀ b∈fp,FpOk X pins H b)→tn i s.heap→J.go i H →
  wpAny (model P w) X.A (pyNext (.ref it)) (fun r s1=>∃ u,r=some u ∧
   wpAny (model P w) X.A (letOwnedTupleGo tg (.ref it) u) (fun _ s2=>∃ x H',Inv X pins σ H' s2∧RelV x u∧J.yld i H x H'∧tn (i+1) s2.heap∧∀ b∈fp,H' b=none) E s1) E s
 done:∀ (X:Cx),X.prog=P→X.w=w→X.K=K→X.calm=true→∀ (i:Nat) (pins:List (Addr×Obj)) (s:Shared) (σ:St) (H:Hp) (E:Value→Shared→Prop),Inv X pins σ H s→(∀ b∈fp,FpOk X pins H b)→tn i s.heap→J.stop i H →
  wpAny (model P w) X.A (pyNext (.ref it)) (fun r s1=>r=none∧Inv X pins σ H s1) E s
 self:∀ (A:Around) (i:Nat) (s:Shared) (Q:Value→Shared→Prop) (E:Value→Shared→Prop),tn i s.heap→Q (.ref it) s→wpAny (model P w) A (pyIter (.ref it)) Q E s
abbrev TI:=St→Hp→(It→Hp→Prop)→Prop
def PIE (X:Cx) (pins:List (Addr×Obj)) (σ:St) (tg:Expr) (R:It→Hp→Prop) (itv:Value) (s2:Shared):Prop :=
 ∃ (it:Addr) (fp:List Addr) (tn:Nat→Heap→Prop) (J:It) (H':Hp),itv=.ref it∧Inv X pins σ H' s2∧Turn X.prog X.w X.K tg J fp it tn∧tn 0 s2.heap∧(∀ b∈fp,FpOk X pins H' b)∧R J H'
def PI (X:Cx) (tg iter:Expr) (wi:TI):Prop :=
 ∀ (pins:List (Addr×Obj)) (s:Shared) (σ:St) (H:Hp) (R:It→Hp→Prop),Inv X pins σ H s→wi σ H R →
  wpAny (model X.prog X.w) X.A (eval iter X.env) (fun v s1=>wpAny (model X.prog X.w) X.A (pyIter v) (PIE X pins σ tg R) X.xe s1) X.xe s
theorem zkr {M:Model} {A:Around} {E:Value→Shared→Prop} {s:Shared} {tg:Expr} {it:Addr} {u:Value} {o:Obj} {n:String} {vs:Array Value} {Q:Unit→Shared→Prop} (ho:s.heap.get? it=some o) (hc:o.cls=.type n) (hd:o.data=.fields vs)
  (hn:["enumerate","zip","dict_itemiterator","dict_reverseitemiterator","odict_iterator","itertools.zip_longest","itertools.pairwise"].contains n=false) (hQ:Q () s):wpAny M A (letOwnedTupleGo tg (.ref it) u) Q E s:=by
 unfold letOwnedTupleGo
 cases tg <;> first
  | exact wpAny_pure hQ
  | (cases u <;> first
     | exact wpAny_pure hQ
     | (refine wpAny_bind (wpAny_load ho ?_)
        rw [hc,hd];show wpAny M A (if (["enumerate","zip","dict_itemiterator","dict_reverseitemiterator","odict_iterator","itertools.zip_longest","itertools.pairwise"].contains n && vs[0]? == some (rawInt _))=true then _ else _) Q E s;rw [if_neg (by intro h;rw [hn,Bool.false_and] at h;cases h)];exact wpAny_pure hQ))
def Itl (K:PySem.W.Frag) (a:Addr):It :=
 ⟨fun i H=>∃ xs x,SqL K H a xs∧xs[i]? = some x,fun i H x H'=>H'=H∧∀ xs,SqL K H a xs→xs[i]? = some x,fun i H=>∃ xs,SqL K H a xs∧xs.length≤i⟩
def Itr (lo:Int) (n:Nat):It:=⟨fun i _=>i < n,fun i H x H'=>H'=H∧x=.int (lo+i),fun i _=>n≤i⟩
theorem zg1 {P:Program} {w:World} {K:PySem.W.Frag} {tg:Expr} (a it:Addr):Turn P w K tg (Itl K a) [it] it (fun i h=>h.IsListIter it a i) where
 mem:=by simp
 obj:=fun i h st b hb=>by
  have e:b=it:=by simpa using hb
  subst e;obtain ⟨o,e,c,d⟩:=st;exact ⟨o,e,fun v z=>by rw [d] at z;cases z⟩
 keep:=fun i h h' st k=>st.at fun o e=>k it (by simp) o e
 item:=by
  intro X hP hw hK hc i pins s σ H E I hf st hg;subst hP hw hK;obtain ⟨xs,x,hq,hx⟩:=hg;obtain ⟨its,rv,p,hz⟩:=I.list hq;obtain ⟨u,hu,ru⟩:=rv.get hx;obtain ⟨f0,f1,f2,f3,f4,f5⟩:=hf it (by simp);refine wpAny_pyNext_list_item st p.isList (x:=u) (by simpa using hu) fun h' st' sb=>?_;have I1:Inv X pins σ H { s with heap:=h' }:=I.turned (t':=s.toks) (fun b o hb e=>(sb.2 b hb).trans e) f0 f1 f3 f4 f5;obtain ⟨o,e,c,d⟩:=id st';exact ⟨u,rfl,zkr (s:={ s with heap:=h' }) e c d (by decide) ⟨x,H,I1,ru,⟨rfl,fun ys hy=>by rw [I.list_inj hy hq];exact hx⟩,st',fun b hb=>(hf b hb).1⟩⟩
 done:=by
  intro X hP hw hK hc i pins s σ H E I hf st hg;subst hP hw hK;obtain ⟨xs,hq,hx⟩:=hg;obtain ⟨its,rv,p,hz⟩:=I.list hq;obtain ⟨f0,f1,f2,f3,f4,f5⟩:=hf it (by simp);have hl:=rv.length;exact wpAny_pyNext_list_end (I.ok.hd hc) st p.isList (by simp;omega) fun h' eb=>⟨rfl,I.turned (t':=s.toks) (fun b o hb e=>eb b o hb e) f0 f1 f3 f4 f5⟩
 self:=fun _ _ _ _ _ st h=>wpAny_pyIter_listiter st h
theorem zgq {P:Program} {w:World} {K:PySem.W.Frag} {tg:Expr} (it:Addr) (lo:Int) (n:Nat):Turn P w K tg (Itr lo n) [it] it (fun i h=>IsRangeIter h it (lo+(i:Nat) * 1) ((n:Int)-(i:Nat)) 1) where
 mem:=by simp
 obj:=fun i h st b hb=>by
  have e:b=it:=by simpa using hb
  subst e;exact ⟨_,st,fun v z=>by
   have z':Data.fields _=Data.cell v:=z
   cases z'⟩
 keep:=fun i h h' st k=>k it (by simp) _ st
 item:=by
  intro X hP hw hK hc i pins s σ H E I hf st hg;subst hP hw hK;obtain ⟨f0,f1,f2,f3,f4,f5⟩:=hf it (by simp);have W:=Walks.range (prog:=X.prog) (w:=X.w) (I.ok.hd hc) it lo 1 n;refine W.item i s _ _ hg st fun v h' tk hv st' kk=>?_;obtain ⟨t,rfl⟩:=hv;have I1:Inv X pins σ H { s with heap:=h',toks:=tk }:=I.turned (fun b o hb e=>kk b o (by simpa using hb) e) f0 f1 f3 f4 f5;refine ⟨_,rfl,zkr (s:={ s with heap:=h',toks:=tk }) (n:="range_iterator") st' rfl rfl (by decide) ⟨.int (lo+i),H,I1,⟨t,?_⟩,⟨rfl,rfl⟩,st',fun b hb=>(hf b hb).1⟩⟩;rw [Int.mul_one]
 done:=by
  intro X hP hw hK hc i pins s σ H E I hf st hg;subst hP hw hK;obtain ⟨f0,f1,f2,f3,f4,f5⟩:=hf it (by simp);exact wpAny_pyNext_range_end (I.ok.hd hc) st (by have:n≤i:=hg;omega) fun h' eb=>⟨rfl,I.turned (t':=s.toks) (fun b o hb e=>eb b o hb e) f0 f1 f3 f4 f5⟩
 self:=fun _ _ _ _ _ st h=>wpAny_pyIter_rangeiter st h
end L2
namespace L2
open PySem PySem.Spec PyProof.Rows
section
variable {X:Cx} {tg:Expr}
def zim (K:PySem.W.Frag) (tl:TE):TI:=fun σ H R=>tl σ H fun x H1=>∃ a,x=.ref a∧(∃ xs,SqL K H1 a xs)∧R (Itl K a) H1
theorem zjv {l:Expr} {tl:TE} (hl:PE X l tl):PI X tg l (zim X.K tl):=by
 intro pins s σ H R I h;refine thn (hl pins s σ H _ I h) fun v s1 ⟨x,H1,I1,r1,q1⟩=>?_;obtain ⟨a,e,⟨xs,hq⟩,q⟩:=q1;subst e
 cases r1
 obtain ⟨its,rv,p,hz⟩:=I1.list hq;refine wpAny_pyIter_list p.isList ?_;refine ⟨s1.heap.objs.size,[s1.heap.objs.size],_,_,H1,rfl,I1.kept (t':=s1.toks) fun b o e=>Heap.get?_push_of_some _ e,zg1 a _,⟨_,Heap.get?_push_size _ rfl,rfl,rfl⟩,fun b hb=>?_,q⟩;have e:b=s1.heap.objs.size:=by simpa using hb
 subst e;exact I1.fpOk (Nat.le_refl _) (I1.hok.fresh (Nat.le_refl _))
theorem zfX {pins:List (Addr×Obj)} {σ:St} {H:Hp} {s:Shared} {R:It→Hp→Prop} {E:Value→Shared→Prop} {lo hi:Int} {t u v:Tok} {tk:Nat} (I:Inv X pins σ H s) (h1 : -(2 ^ 62)≤lo) (h2:lo < 2 ^ 62) (h3 : -(2 ^ 62)≤hi) (h4:hi < 2 ^ 62)
  (q:R (Itr lo (hi-lo).toNat) H):wpAny (model X.prog X.w) X.A (pyIter (.ref s.heap.objs.size)) (PIE X pins σ tg R) E { s with heap:=s.heap.push { cls:=.type "range",data:=.fields #[.int lo t,.int hi u,.int 1 v] },toks:=tk }:=by
 refine wpAny_pyIter_range (IsRange.new ..) (small_one h1 h2 h3 h4) ?_;have I1:Inv X pins σ H { s with heap:=s.heap.push { cls:=.type "range",data:=.fields #[.int lo t,.int hi u,.int 1 v] },toks:=tk }:=I.kept fun b o e=>Heap.get?_push_of_some _ e;refine ⟨(s.heap.push { cls:=.type "range",data:=.fields #[.int lo t,.int hi u,.int 1 v] }).objs.size,[(s.heap.push { cls:=.type "range",data:=.fields #[.int lo t,.int hi u,.int 1 v] }).objs.size],_,_,H,rfl,
  I1.kept (t':=tk) fun b o e=>Heap.get?_push_of_some _ e,zgq _ lo (hi-lo).toNat,?_,fun b hb=>?_,q⟩
 ·have e1:lo+((0:Nat):Int) * 1=lo:=by simp
  have e2:(((hi-lo).toNat:Nat):Int)-((0:Nat):Int)=Builtin.Range.rangeSize lo hi 1:=by rw [rangeSize_one];split <;> omega
  show IsRangeIter _ _ (lo+((0:Nat):Int) * 1) ((((hi-lo).toNat:Nat):Int)-((0:Nat):Int)) 1;rw [e1,e2];exact Heap.get?_push_size _ rfl
 ·have e:b=(s.heap.push { cls:=.type "range",data:=.fields #[.int lo t,.int hi u,.int 1 v] }).objs.size:=by simpa using hb
  subst e;exact I1.fpOk (Nat.le_refl _) (I1.hok.fresh (Nat.le_refl _))
def zjw (ta:TA):TI:=fun σ H R=>ta σ H fun vs H1=>∃ j:Int,vs=[.int j]∧-(2 ^ 62)≤j∧j < 2 ^ 62∧R (Itr 0 j.toNat) H1
def zjx (ta:TA):TI:=fun σ H R=>ta σ H fun vs H1=>∃ i j:Int,vs=[.int i,.int j]∧(-(2 ^ 62)≤i∧i < 2 ^ 62∧-(2 ^ 62)≤j∧j < 2 ^ 62)∧R (Itr i (j-i).toNat) H1
theorem zbJ {a:Expr} {ta:TA} {p pos:Pos} (hg:Gl X "range") (hm:X.mg "range"=none) (ha:PA X [a] ta) (hs:starEach [a] X.env=[(false,eval a X.env)]:=by rfl):PI X tg (.Call (.Name "range" p) [a] [] pos) (zjw ta):=by
 intro pins s σ H R I h;refine Call_ (zdv I hg hm boot_range (PyProof.Rows.callWith_type1 (thn (ha pos pins s σ H _ I h) fun us s1 ⟨vs,H1,I1,r1,q1⟩=>?_) hs rfl));obtain ⟨j,e,q1,q2,q⟩:=q1;subst e
 cases r1 with
 | cons r rr =>
   cases rr
   obtain ⟨t,rfl⟩:=r;exact call_range_1 (zfX I1 (by omega) (by omega) q1 q2 (by simpa using q))
theorem zcP {a b:Expr} {ta:TA} {p pos:Pos} (hg:Gl X "range") (hm:X.mg "range"=none) (ha:PA X [a,b] ta) (hs:starEach [a,b] X.env=[(false,eval a X.env),(false,eval b X.env)]:=by rfl) (hs2:starEach [b] X.env=[(false,eval b X.env)]:=by rfl) :
  PI X tg (.Call (.Name "range" p) [a,b] [] pos) (zjx ta):=by
 intro pins s σ H R I h;refine Call_ (zdv I hg hm boot_range (PyProof.Rows.callWith_type1 (thn (ha pos pins s σ H _ I h) fun us s1 ⟨vs,H1,I1,r1,q1⟩=>?_) (by rw [hs,hs2]) (by rw [hs2];rfl)));obtain ⟨i,j,e,⟨q1,q2,q3,q4⟩,q⟩:=q1;subst e
 cases r1 with
 | cons r rr =>
   cases rr with
   | cons r' rr =>
     cases rr
     obtain ⟨t,rfl⟩:=r;obtain ⟨t',rfl⟩:=r';exact call_range_2 (zfX I1 q1 q2 q3 q4 q)
def tFor (wi:TI) (g:TG) (tb:TS):TS:=fun D σ H=>wi σ H fun J H1=>∃ W:Nat→Nat→St→Hp→Prop,(∃ m,W 0 m σ H1)∧∀ i m σ H,W i m σ H →
 (J.stop i H∧D.nx σ H)∨(J.go i H∧∃ N:St→Hp→Prop,(∀ σ' H',N σ' H'→∃ m',m' < m∧W (i+1) m' σ' H')∧∀ x H',J.yld i H x H'→g x σ H' fun σ2 H2=>tb { D with nx:=N,ct:=N,bk:=D.nx } σ2 H2)
def zeC (fp:List Addr) (h:Heap):List (Addr×Obj):=fp.filterMap fun b=>(h.get? b).map fun o=>(b,o)
theorem zcu {fp:List Addr} {h:Heap} {b:Addr} {o:Obj} (hb:b∈fp) (e:h.get? b=some o):(b,o)∈zeC fp h:=List.mem_filterMap.mpr ⟨b,hb,by rw [e];rfl⟩
theorem zg2 {fp:List Addr} {h:Heap} {p:Addr×Obj} (hp:p∈zeC fp h):p.1∈fp∧h.get? p.1=some p.2:=by
 obtain ⟨b,hb,e⟩:=List.mem_filterMap.mp hp
 cases q:h.get? b with
 | none=>rw [q] at e;cases e
 | some o =>
   rw [q] at e;have e':(b,o)=p:=Option.some.inj e;subst e';exact ⟨hb,q⟩
theorem Inv.pinned {pins:List (Addr×Obj)} {σ:St} {H:Hp} {s:Shared} {fp:List Addr} (I:Inv X pins σ H s) (hf:∀ b∈fp,FpOk X pins H b) (ho:∀ b∈fp,∃ o,s.heap.get? b=some o∧∀ v,o.data≠.cell v):Inv X (pins++zeC fp s.heap) σ H s :=
 I.pins_of fun p hp=>(mem_append.mp hp).elim (fun z=>I.pin p (mem_append_right _ z)) fun z=>by
  obtain ⟨hb,e⟩:=zg2 z;obtain ⟨f0,f1,f2,_⟩:=hf p.1 hb;obtain ⟨o,e',d⟩:=ho p.1 hb;rw [e] at e';cases e'
  exact ⟨e,f0,f1,f2,d⟩
theorem Inv.unpinned {pins pl:List (Addr×Obj)} {σ:St} {H:Hp} {s:Shared} (I:Inv X (pins++pl) σ H s):Inv X pins σ H s:=I.pins_of fun p hp=>I.pin p (mem_append_right _ (mem_append_left _ hp))
theorem zbK {iter:Expr} {body:List Stmt} {wi:TI} {g:TG} {tb:TS} {pos:Pos} (hp:PassesOwn (model X.prog X.w) X.A X.env X.xe) (hc:X.calm=true) (hi:PI X tg iter wi) (hg:PG X tg g) (hb:PSs X body tb)
  (hs:∀ x,foldedSetIterable iter X.env x=pure x:=by intro _;rfl):PS X (.For tg iter body [] pos) (tFor wi g tb):=by
 intro pins s σ H D I h;refine wpAny_For (thn (hi pins s σ H _ I h) fun v s1 h1=>thn h1 fun itv s2 h2=>?_) hs;obtain ⟨it,fp,tn,J,H2,e,I2,T,st2,f2,W,⟨m0,w0⟩,turn⟩:=h2;subst e;have stat:∀ {H':Hp},(∀ b∈fp,H' b=none)→∀ b∈fp,FpOk X pins H' b:=fun hn b hb=>⟨hn b hb,(f2 b hb).2⟩
 refine codeAny_forLoop_any (fun n s'=>∃ i σ' H',Inv X pins σ' H' s'∧tn i s'.heap∧(∀ b∈fp,H' b=none)∧W i n σ' H') ?_ m0 ⟨0,σ,H2,I2,st2,fun b hb=>(f2 b hb).1,w0⟩;rintro n s3 ⟨i,σ3,H3,I3,st3,fr3,w3⟩;rcases turn i n σ3 H3 w3 with ⟨stop,qn⟩ | ⟨go,N,hN,step⟩
 ·refine wpAny_passesOwn hp (thn (T.done X rfl rfl rfl hc i pins s3 σ3 H3 X.xe I3 (stat fr3) st3 stop) fun r s4 ⟨hr,I4⟩=>?_);subst hr;exact wpAny_execs_nil ⟨σ3,H3,I4,qn⟩
 ·refine wpAny_passesOwn hp (thn (T.item X rfl rfl rfl hc i pins s3 σ3 H3 X.xe I3 (stat fr3) st3 go) fun r s4 ⟨u,hr,h4⟩=>?_);subst hr;refine wpAny_passesOwn hp (thn h4 fun _ s5 ⟨x,H5,I5,r5,y5,st5,fr5⟩=>?_);have I5':=I5.pinned (stat fr5) (T.obj _ _ st5);refine wpAny_passesOwn hp (thn (hg _ s5 σ3 H5 x u _ I5' r5 (step x H5 y5)) fun _ s6 ⟨σ6,H6,I6,q6⟩=>?_);refine wpAny_passesOwn hp (thn (hb _ s6 σ6 H6 _ I6 q6) fun f s7 q7=>?_);have again:∀ {σ7:St} {H7:Hp},Inv X (pins++zeC fp s5.heap) σ7 H7 s7→N σ7 H7→∃ m,m < n∧∃ i σ' H',Inv X pins σ' H' s7∧tn i s7.heap∧(∀ b∈fp,H' b=none)∧W i m σ' H':=fun {σ7 H7} I7 n7=>by
   obtain ⟨m',hm,w7⟩:=hN σ7 H7 n7;refine ⟨m',hm,i+1,σ7,H7,I7.unpinned,T.keep _ _ _ st5 fun b hb o e=>(I7.pin (b,o) (mem_append_right _ (mem_append_right _ (zcu hb e)))).1,fun b hb=>?_,w7⟩;obtain ⟨o,e,d⟩:=T.obj _ _ st5 b hb;exact (I7.pin (b,o) (mem_append_right _ (mem_append_right _ (zcu hb e)))).2.1
  cases f with
  | next=>obtain ⟨σ7,H7,I7,n7⟩:=q7;exact again I7 n7
  | cont=>obtain ⟨σ7,H7,I7,n7⟩:=q7;exact again I7 n7
  | brk=>obtain ⟨σ7,H7,I7,q7⟩:=q7;exact ⟨σ7,H7,I7.unpinned,q7⟩
  | ret v=>obtain ⟨x7,σ7,H7,I7,r7,q7⟩:=q7;exact ⟨x7,σ7,H7,I7.unpinned,r7,q7⟩
end
theorem zin {K:PySem.W.Frag} {a:Addr} {xs:List V} {g:TG} {tb:TS} {D:Ends} {σ:St} {H:Hp} (Pv:Nat→St→Hp→Prop) (h0:Pv 0 σ H) (hl:∀ i σ H,i≤xs.length→Pv i σ H→SqL K H a xs)
  (hs:∀ i x σ H,xs[i]? = some x→Pv i σ H→g x σ H fun σ2 H2=>tb { D with nx:=Pv (i+1),ct:=Pv (i+1),bk:=D.nx } σ2 H2) (hd:∀ σ H,Pv xs.length σ H→D.nx σ H) :
  ∃ W:Nat→Nat→St→Hp→Prop,(∃ m,W 0 m σ H)∧∀ i m σ H,W i m σ H →
   ((Itl K a).stop i H∧D.nx σ H)∨((Itl K a).go i H∧∃ N:St→Hp→Prop,(∀ σ' H',N σ' H'→∃ m',m' < m∧W (i+1) m' σ' H')∧∀ x H',(Itl K a).yld i H x H'→g x σ H' fun σ2 H2=>tb { D with nx:=N,ct:=N,bk:=D.nx } σ2 H2):=by
 refine ⟨fun i m σ H=>m=xs.length-i∧i≤xs.length∧Pv i σ H,⟨xs.length,by simp,zero_le _,h0⟩,?_⟩;rintro i m σ H ⟨rfl,hi,p⟩;have q:=hl i σ H hi p
 by_cases hlt:i < xs.length
 ·refine .inr ⟨⟨xs,xs[i],q,by simp [hlt]⟩,Pv (i+1),fun σ' H' p'=>⟨xs.length-(i+1),by omega,rfl,hlt,p'⟩,fun x H' y=>?_⟩;obtain ⟨e,y⟩:=y;subst e;exact hs i x σ _ (y xs q) p
 ·have e:i=xs.length:=by omega
  subst e;exact .inl ⟨⟨xs,q,Nat.le_refl _⟩,hd σ H p⟩
theorem zg3 {lo:Int} {n:Nat} {g:TG} {tb:TS} {D:Ends} {σ:St} {H:Hp} (Pv:Nat→St→Hp→Prop) (h0:Pv 0 σ H)
  (hs:∀ i σ H,i < n→Pv i σ H→g (.int (lo+i)) σ H fun σ2 H2=>tb { D with nx:=Pv (i+1),ct:=Pv (i+1),bk:=D.nx } σ2 H2) (hd:∀ σ H,Pv n σ H→D.nx σ H) :
  ∃ W:Nat→Nat→St→Hp→Prop,(∃ m,W 0 m σ H)∧∀ i m σ H,W i m σ H →
   ((Itr lo n).stop i H∧D.nx σ H)∨((Itr lo n).go i H∧∃ N:St→Hp→Prop,(∀ σ' H',N σ' H'→∃ m',m' < m∧W (i+1) m' σ' H')∧∀ x H',(Itr lo n).yld i H x H'→g x σ H' fun σ2 H2=>tb { D with nx:=N,ct:=N,bk:=D.nx } σ2 H2):=by
 refine ⟨fun i m σ H=>m=n-i∧i≤n∧Pv i σ H,⟨n,by simp,zero_le _,h0⟩,?_⟩;rintro i m σ H ⟨rfl,hi,p⟩
 by_cases hlt:i < n
 ·refine .inr ⟨hlt,Pv (i+1),fun σ' H' p'=>⟨n-(i+1),by omega,rfl,hlt,p'⟩,fun x H' y=>?_⟩;obtain ⟨e,y⟩:=y;subst e y;exact hs i σ _ hlt p
 ·have e:i=n:=by omega
  subst e;exact .inl ⟨Nat.le_refl _,hd σ H p⟩
end L2
namespace L2
open PySem PySem.Spec PyProof.Rows
abbrev R2:=V→V→Hp→VK→Prop
def OpR (X:Cx) (f:Value→Value→Sem Value) (r:R2):Prop :=
 ∀ (pins:List (Addr×Obj)) (s:Shared) (σ:St) (H:Hp) (x y:V) (v u:Value) (Q:VK),Inv X pins σ H s→RelV x v→RelV y u→r x y H Q →
  wpAny (model X.prog X.w) X.A (f v u) (EP X pins σ Q) X.xe s
def UnR (X:Cx) (f:Value→Sem Value) (r:V→Hp→VK→Prop):Prop :=
 ∀ (pins:List (Addr×Obj)) (s:Shared) (σ:St) (H:Hp) (x:V) (v:Value) (Q:VK),Inv X pins σ H s→RelV x v→r x H Q →
  wpAny (model X.prog X.w) X.A (f v) (EP X pins σ Q) X.xe s
def zel (X:Cx) (f:Value) (r:List V→Hp→VK→Prop):Prop :=
 ∀ (pins:List (Addr×Obj)) (s:Shared) (σ:St) (H:Hp) (xs:List V) (us:List Value) (Q:VK),Inv X pins σ H s→Vals xs us→r xs H Q →
  wpAny (model X.prog X.w) X.A (call f us) (EP X pins σ Q) X.xe s
def TruR (X:Cx) (r:V→Hp→(Bool→Hp→Prop)→Prop):Prop :=
 ∀ (pins:List (Addr×Obj)) (s:Shared) (σ:St) (H:Hp) (x:V) (v:Value) (Q:Bool→Hp→Prop),Inv X pins σ H s→RelV x v→r x H Q →
  wpAny (model X.prog X.w) X.A (truthy v) (TP X pins σ Q) X.xe s
def tOp (r:R2) (ta tb:TE):TE:=fun σ H Q=>ta σ H fun x H1=>tb σ H1 fun y H2=>r x y H2 Q
def tUn (r:V→Hp→VK→Prop) (ta:TE):TE:=fun σ H Q=>ta σ H fun x H1=>r x H1 Q
def rI (C:Int→Int→Prop) (g:Int→Int→V):R2:=fun x y H Q=>∃ i j,x=.int i∧y=.int j∧C i j∧Q (g i j) H
def rI0 (g:Int→Int→V):R2:=fun x y H Q=>∃ i j,x=.int i∧y=.int j∧Q (g i j) H
def rU (g:Int→V):V→Hp→VK→Prop:=fun x H Q=>∃ i,x=.int i∧Q (g i) H
section
variable {X:Cx} {a b c:Expr} {ta tb tc:TE} {pos:Pos}
theorem binT (ha:PE X a ta) (hb:PE X b tb) {pins:List (Addr×Obj)} {s:Shared} {σ:St} {H:Hp} {R:V→V→Hp→Prop} (I:Inv X pins σ H s)
  (h:ta σ H fun x H1=>tb σ H1 fun y H2=>R x y H2) {Q:Value→Shared→Prop} {f:Value→Value→Sem Value}
  (hf:∀ v u s2 x y H2,Inv X pins σ H2 s2→RelV x v→RelV y u→R x y H2→wpAny (model X.prog X.w) X.A (f v u) Q X.xe s2) :
  wpAny (model X.prog X.w) X.A (eval a X.env) (fun v s₁=>wpAny (model X.prog X.w) X.A (eval b X.env) (fun u s₂=>wpAny (model X.prog X.w) X.A (f v u) Q X.xe s₂) X.xe s₁) X.xe s:=by
 refine thn (ha pins s σ H _ I h) fun v s1 ⟨x,H1,I1,r1,q1⟩=>?_;refine thn (hb pins s1 σ H1 _ I1 q1) fun u s2 ⟨y,H2,I2,r2,q2⟩=>?_;exact hf v u s2 x y H2 I2 r1 r2 q2
theorem zap {op:Operator} {r:R2} (ho:OpR X (binaryOp op) r) (ha:PE X a ta) (hb:PE X b tb):PE X (.BinOp a op b pos) (tOp r ta tb):=by
 intro pins s σ H Q I h;exact wpAny_BinOp (binT ha hb I h fun v u s2 x y H2 I2 rx ry q=>ho pins s2 σ H2 x y v u Q I2 rx ry q)
theorem zks {op:UnaryOp} {r:V→Hp→VK→Prop} (ho:UnR X (unaryOp op) r) (ha:PE X a ta):PE X (.UnaryOp op a pos) (tUn r ta):=by
 intro pins s σ H Q I h;exact UnaryOp_ (thn (ha pins s σ H _ I h) fun v s1 ⟨x,H1,I1,r1,q1⟩=>ho pins s1 σ H1 x v Q I1 r1 q1)
theorem opI {f:Value→Value→Sem Value} {C:Int→Int→Prop} {g:Int→Int→Int}
  (rule:∀ (i j:Int) (t u:Tok) (s:Shared) (Q:Value→Shared→Prop) (E:Value→Shared→Prop),C i j→Q (.int (g i j) s.toks) { s with toks:=s.toks+1 }→wpAny (model X.prog X.w) X.A (f (.int i t) (.int j u)) Q E s) :
  OpR X f (rI C fun i j=>.int (g i j)):=by
 intro pins s σ H x y v u Q I rx ry h;obtain ⟨i,j,rfl,rfl,hc,q⟩:=h;obtain ⟨t,rfl⟩:=rx;obtain ⟨t',rfl⟩:=ry;exact rule i j t t' s _ _ hc ⟨.int (g i j),H,I.tok _,⟨_,rfl⟩,q⟩
theorem opI0 {f:Value→Value→Sem Value} {g:Int→Int→Int}
  (rule:∀ (i j:Int) (t u:Tok) (s:Shared) (Q:Value→Shared→Prop) (E:Value→Shared→Prop),Q (.int (g i j) s.toks) { s with toks:=s.toks+1 }→wpAny (model X.prog X.w) X.A (f (.int i t) (.int j u)) Q E s) :
  OpR X f (rI0 fun i j=>.int (g i j)):=by
 intro pins s σ H x y v u Q I rx ry h;obtain ⟨i,j,rfl,rfl,q⟩:=h;obtain ⟨t,rfl⟩:=rx;obtain ⟨t',rfl⟩:=ry;exact rule i j t t' s _ _ ⟨.int (g i j),H,I.tok _,⟨_,rfl⟩,q⟩
theorem opB0 {f:Value→Value→Sem Value} {g:Int→Int→Bool}
  (rule:∀ (i j:Int) (t u:Tok) (s:Shared) (Q:Value→Shared→Prop) (E:Value→Shared→Prop),Q (.bool (g i j)) s→wpAny (model X.prog X.w) X.A (f (.int i t) (.int j u)) Q E s) :
  OpR X f (rI0 fun i j=>.bl (g i j)):=by
 intro pins s σ H x y v u Q I rx ry h;obtain ⟨i,j,rfl,rfl,q⟩:=h;obtain ⟨t,rfl⟩:=rx;obtain ⟨t',rfl⟩:=ry;exact rule i j t t' s _ _ ⟨.bl (g i j),H,I,rfl,q⟩
theorem op_add:OpR X (binaryOp .Add) (rI0 fun i j=>.int (i+j)):=opI0 fun _ _ _ _ _ _ _ q=>add_int q
theorem op_sub:OpR X (binaryOp .Sub) (rI0 fun i j=>.int (i-j)):=opI0 fun _ _ _ _ _ _ _ q=>sub_int q
theorem op_mod:OpR X (binaryOp .Mod) (rI (fun _ j=>0 < j) fun i j=>.int (i % j)):=opI fun i j _ _ _ _ _ hc q=>by
 have h1:(0:Int) < j:=hc;exact mod_int' (by omega) (by rw [Int.fmod_eq_emod_of_nonneg i (by omega)];exact q)
theorem unI {f:Value→Sem Value} {g:Int→Int}
  (rule:∀ (i:Int) (t:Tok) (s:Shared) (Q:Value→Shared→Prop) (E:Value→Shared→Prop),Q (.int (g i) s.toks) { s with toks:=s.toks+1 }→wpAny (model X.prog X.w) X.A (f (.int i t)) Q E s) :
  UnR X f (rU fun i=>.int (g i)):=by
 intro pins s σ H x v Q I rx h;obtain ⟨i,rfl,q⟩:=h;obtain ⟨t,rfl⟩:=rx;exact rule i t s _ _ ⟨.int (g i),H,I.tok _,⟨_,rfl⟩,q⟩
theorem un_neg:UnR X (unaryOp .USub) (rU fun i=>.int (-i)):=unI fun _ _ _ _ _ q=>neg_int q
end
def scal:V→V→Bool
 | .non,.non=>true | .non,.int _=>true | .int _,.non=>true | .non,.bl _=>true | .bl _,.non=>true | .non,.str _=>true | .str _,.non=>true
 | .int _,.int _=>true | .bl _,.bl _=>true | .str _,.str _=>true | .byt _,.byt _=>true
 | .int _,.str _=>true | .str _,.int _=>true | .bl _,.str _=>true | .str _,.bl _=>true
 | _,_=>false
def rEq:R2:=fun x y H Q=>scal x y=true∧Q (.bl (decide (x=y))) H
def rNe:R2:=fun x y H Q=>scal x y=true∧Q (.bl (!decide (x=y))) H
theorem zg4 {i j:Int}:decide (V.int i=V.int j)=(i == j):=by
 rw [Bool.eq_iff_iff];simp
theorem zjc {i j:Bool}:decide (V.bl i=V.bl j)=(i == j):=by
 rw [Bool.eq_iff_iff];simp
theorem zg5 {i j:Str}:decide (V.str i=V.str j)=(i == j):=by
 rw [Bool.eq_iff_iff];simp
theorem zg6 {i j:Array UInt8}:decide (V.byt i=V.byt j)=(i.toList == j.toList):=by
 rw [Bool.eq_iff_iff]
 cases i
 cases j
 simp
section
variable {X:Cx} {a b c:Expr} {ta tb tc:TE} {pos:Pos}
theorem zaK {pins:List (Addr×Obj)} {σ:St} {H:Hp} {s:Shared} {Q:VK} {k k':Bool} (I:Inv X pins σ H s) (q:Q (.bl k) H) (e:k=k'):EP X pins σ Q (.bool k') s:=by
 subst e;exact ⟨.bl k,H,I,rfl,q⟩
theorem op_eq:OpR X (compareOp .Eq) rEq:=by
 intro pins s σ H x y v u Q I rx ry h;obtain ⟨hs,q⟩:=h
 cases x with
 | non =>
   cases rx
   cases y with
   | non=>cases ry;exact PySem.EqNone.eq_none_none (zaK I q (by simp))
   | bl j=>cases ry;exact PySem.EqNone.eq_none_bool (zaK I q (by simp))
   | int j=>obtain ⟨t',rfl⟩:=ry;exact PySem.EqNone.eq_none_int (zaK I q (by simp))
   | str j=>obtain ⟨t',rfl⟩:=ry;exact PySem.EqNone.eq_none_str (zaK I q (by simp))
   | _=>exact absurd (show false=true from hs) Bool.false_ne_true
 | bl i =>
   cases rx
   cases y with
   | non=>cases ry;exact PySem.EqNone.eq_bool_none (zaK I q (by simp))
   | bl j=>cases ry;exact eq_bool (zaK I q zjc)
   | str j=>obtain ⟨t',rfl⟩:=ry;exact PySem.EqMixed.eq_bool_str (zaK I q (by simp))
   | _=>exact absurd (show false=true from hs) Bool.false_ne_true
 | int i =>
   obtain ⟨t,rfl⟩:=rx
   cases y with
   | non=>cases ry;exact PySem.EqNone.eq_int_none (zaK I q (by simp))
   | int j=>obtain ⟨t',rfl⟩:=ry;exact eq_int (zaK I q zg4)
   | str j=>obtain ⟨t',rfl⟩:=ry;exact PySem.EqMixed.eq_int_str (zaK I q (by simp))
   | _=>exact absurd (show false=true from hs) Bool.false_ne_true
 | str i =>
   obtain ⟨t,rfl⟩:=rx
   cases y with
   | non=>cases ry;exact PySem.EqNone.eq_str_none (zaK I q (by simp))
   | bl j=>cases ry;exact PySem.EqMixed.eq_str_bool (zaK I q (by simp))
   | int j=>obtain ⟨t',rfl⟩:=ry;exact PySem.EqMixed.eq_str_int (zaK I q (by simp))
   | str j=>obtain ⟨t',rfl⟩:=ry;exact eq_str (zaK I q zg5)
   | _=>exact absurd (show false=true from hs) Bool.false_ne_true
 | byt i =>
   obtain ⟨t,rfl⟩:=rx
   cases y with
   | byt j=>obtain ⟨t',rfl⟩:=ry;exact PySem.W.eq_bytes (zaK I q zg6)
   | _=>exact absurd (show false=true from hs) Bool.false_ne_true
 | _=>cases y <;> exact absurd (show false=true from hs) Bool.false_ne_true
theorem op_ne:OpR X (compareOp .NotEq) rNe:=by
 intro pins s σ H x y v u Q I rx ry h;obtain ⟨hs,q⟩:=h
 cases x with
 | non =>
   cases rx
   cases y with
   | non=>cases ry;exact PySem.EqNone.ne_none_none (zaK I q (by simp))
   | bl j=>cases ry;exact PySem.EqNone.ne_none_bool (zaK I q (by simp))
   | int j=>obtain ⟨t',rfl⟩:=ry;exact PySem.EqNone.ne_none_int (zaK I q (by simp))
   | str j=>obtain ⟨t',rfl⟩:=ry;exact PySem.EqNone.ne_none_str (zaK I q (by simp))
   | _=>exact absurd (show false=true from hs) Bool.false_ne_true
 | bl i =>
   cases rx
   cases y with
   | non=>cases ry;exact PySem.EqNone.ne_bool_none (zaK I q (by simp))
   | bl j=>cases ry;exact ne_bool (zaK I q (congrArg not zjc))
   | str j=>obtain ⟨t',rfl⟩:=ry;exact PySem.EqMixed.ne_bool_str (zaK I q (by simp))
   | _=>exact absurd (show false=true from hs) Bool.false_ne_true
 | int i =>
   obtain ⟨t,rfl⟩:=rx
   cases y with
   | non=>cases ry;exact PySem.EqNone.ne_int_none (zaK I q (by simp))
   | int j=>obtain ⟨t',rfl⟩:=ry;exact ne_int (zaK I q (congrArg not zg4))
   | str j=>obtain ⟨t',rfl⟩:=ry;exact PySem.EqMixed.ne_int_str (zaK I q (by simp))
   | _=>exact absurd (show false=true from hs) Bool.false_ne_true
 | str i =>
   obtain ⟨t,rfl⟩:=rx
   cases y with
   | non=>cases ry;exact PySem.EqNone.ne_str_none (zaK I q (by simp))
   | bl j=>cases ry;exact PySem.EqMixed.ne_str_bool (zaK I q (by simp))
   | int j=>obtain ⟨t',rfl⟩:=ry;exact PySem.EqMixed.ne_str_int (zaK I q (by simp))
   | str j=>obtain ⟨t',rfl⟩:=ry;exact ne_str (zaK I q (congrArg not zg5))
   | _=>exact absurd (show false=true from hs) Bool.false_ne_true
 | byt i =>
   obtain ⟨t,rfl⟩:=rx
   cases y with
   | byt j=>obtain ⟨t',rfl⟩:=ry;exact PySem.W.ne_bytes (zaK I q (congrArg not zg6))
   | _=>exact absurd (show false=true from hs) Bool.false_ne_true
 | _=>cases y <;> exact absurd (show false=true from hs) Bool.false_ne_true
theorem op_lt:OpR X (compareOp .Lt) (rI0 fun i j=>.bl (decide (i < j))):=opB0 fun _ _ _ _ _ _ _ q=>lt_int q
theorem op_le:OpR X (compareOp .LtE) (rI0 fun i j=>.bl (decide (i≤j))):=opB0 fun _ _ _ _ _ _ _ q=>le_int q
theorem op_gt:OpR X (compareOp .Gt) (rI0 fun i j=>.bl (decide (j < i))):=opB0 fun _ _ _ _ _ _ _ q=>gt_int q
theorem op_ge:OpR X (compareOp .GtE) (rI0 fun i j=>.bl (decide (j≤i))):=opB0 fun _ _ _ _ _ _ _ q=>ge_int q
theorem op_isN:OpR X (compareOp .Is) (fun x y H Q=>y=.non∧Q (.bl (decide (x=.non))) H):=by
 intro pins s σ H x y v u Q I rx ry h;obtain ⟨rfl,q⟩:=h
 cases ry
 refine is_none_gen (zaK I q ?_)
 cases x <;> first
  | (cases rx;rfl)
  | (obtain ⟨t,rfl⟩:=rx;rfl)
theorem OpR.or {f:Value→Value→Sem Value} {r r':R2} (h:OpR X f r) (h':OpR X f r'):OpR X f (fun x y H Q=>r x y H Q∨r' x y H Q):=by
 intro pins s σ H x y v u Q I rx ry q;rcases q with q | q
 ·exact h pins s σ H x y v u Q I rx ry q
 ·exact h' pins s σ H x y v u Q I rx ry q
theorem zaA (b:Expr) {op:CmpOp} (h:op≠.In:=by decide) (h2:op≠.NotIn:=by decide):behindInMarks op b=false:=by
 have e1:(op == CmpOp.In)=false:=by cases op <;> first | rfl | exact absurd rfl h
 have e2:(op == CmpOp.NotIn)=false:=by cases op <;> first | rfl | exact absurd rfl h2
 cases b <;> simp [behindInMarks,e1,e2]
theorem zbZ {op:CmpOp} {r:R2} (ho:OpR X (compareOp op) r) (ha:PE X a ta) (hb:PE X b tb) (hm:behindInMarks op b=false):PE X (.Compare a [op] [b] pos) (tOp r ta tb):=by
 intro pins s σ H Q I h;exact wpAny_Compare1 (binT ha hb I h fun v u s2 x y H2 I2 rx ry q=>ho pins s2 σ H2 x y v u Q I2 rx ry q) hm
def zkt (t:TE):TT:=fun σ H Q=>t σ H fun x H'=>∃ k,x=.bl k∧Q k H'
theorem zas {op:CmpOp} {r:R2} (ho:OpR X (compareOp op) r) (ha:PE X a ta) (hb:PE X b tb) (hm:behindInMarks op b=false):PT X (.Compare a [op] [b] pos) (zkt (tOp r ta tb)):=by
 intro pins s σ H Q I h;refine wpAny_isTrue_Compare1 (thn (ha pins s σ H _ I h) fun v s1 ⟨x,H1,I1,r1,q1⟩=>thn (hb pins s1 σ H1 _ I1 q1) fun u s2 ⟨y,H2,I2,r2,q2⟩ =>
  thn (ho pins s2 σ H2 x y v u _ I2 r1 r2 q2) fun c s3 ⟨z,H3,I3,r3,k,e,q3⟩=>?_) hm
 subst e
 cases r3
 exact wpAny_truthy_bool ⟨H3,I3,q3⟩
def TruV (K:PySem.W.Frag) (x:V) (H:Hp) (k:Bool):Prop :=
 match x with
 | .non=>k=false
 | .bl b=>k=b
 | .int i=>k=(i != 0)
 | .str y=>y.length≤sizeLine∧k=((y.length:Int) != 0)
 | .byt y=>y.size≤sizeLine∧k=((y.size:Int) != 0)
 | .ref p=>(∃ xs,SqL K H p xs∧k = !xs.isEmpty)∨(∃ xs,SqT K H p xs∧k = !xs.isEmpty)∨∃ kvs,H p=some (.dK kvs)∧k = !kvs.isEmpty
 | _=>False
theorem zgr {κ:Type} {kvs:List (κ×V)} {vs:List (κ×Value)} (r:KV kvs vs):(!vs.isEmpty) = !kvs.isEmpty:=by
 cases r <;> rfl
theorem zd1 {xs:List V} {its:List Value} (r:Vals xs its):(!its.toArray.isEmpty) = !xs.isEmpty:=by
 cases r <;> simp
theorem line63:(sizeLine:Nat) < 2 ^ 63:=by rw [sizeLine_eq];decide
theorem tru_ok:TruR X (fun x H Q=>∃ k,TruV X.K x H k∧Q k H):=by
 intro pins s σ H x v Q I rx h;obtain ⟨k,e,q⟩:=h;have hl:=line63;have hs:sizeLine=16777216:=sizeLine_eq
 cases x with
 | non =>
   cases rx
   have e':k=false:=e;subst e';exact truthy_none ⟨H,I,q⟩
 | bl b =>
   cases rx
   have e':k=b:=e;subst e';exact wpAny_truthy_bool ⟨H,I,q⟩
 | int i =>
   obtain ⟨t,rfl⟩:=rx;have e':k=(i != 0):=e;subst e';exact PySem.P.truthy_int ⟨H,I,q⟩
 | str y =>
   obtain ⟨t,rfl⟩:=rx;obtain ⟨hy,e'⟩:y.length≤sizeLine∧k=((y.length:Int) != 0):=e;subst e';exact PySem.P.truthy_str (by omega) ⟨H,I.tok _,q⟩
 | byt y =>
   obtain ⟨t,rfl⟩:=rx;obtain ⟨hy,e'⟩:y.size≤sizeLine∧k=((y.size:Int) != 0):=e;subst e';exact PySem.W.truthy_bytes (by omega) ⟨H,I.tok _,q⟩
 | ref p =>
   cases rx
   have e':(∃ xs,SqL X.K H p xs∧k = !xs.isEmpty)∨(∃ xs,SqT X.K H p xs∧k = !xs.isEmpty)∨∃ kvs,H p=some (.dK kvs)∧k = !kvs.isEmpty:=e;rcases e' with ⟨xs,hx,e'⟩ | ⟨xs,hx,e'⟩ | ⟨kvs,hx,e'⟩
   ·subst e';obtain ⟨its,r,pl,hz⟩:=I.list hx;have hlen:=r.length;exact wpAny_truthy_list pl.isList (by simp only [size_toArray];omega) ⟨H,I.tok _,by rw [zd1 r];exact q⟩
   ·subst e';obtain ⟨its,r,pl,hz⟩:=I.tuple hx;have hlen:=r.length;exact truthy_tuple pl (by simp only [size_toArray];omega) ⟨H,I.tok _,by rw [zd1 r];exact q⟩
   ·subst e';obtain ⟨hz,hS,vs,r,m⟩:kvs.length≤sizeLine∧(p == sysModules)=false∧∃ vs,KV kvs vs∧s.heap.DictOf (zbo X.prog X.w) p vs:=I.hok p _ hx;have hlen:kvs.length=vs.length:=Paired.length r;exact wpAny_truthy_dict hS m (by omega) ⟨H,I.tok _,by rw [zgr r];exact q⟩
 | _=>exact (show False from e).elim
theorem zio (ha:PE X a ta) (he:∀ whole,isTrue a X.env whole=(do let v ← whole;standAt a.pos;holding [v] (truthy v))) :
  PT X a (fun σ H Q=>ta σ H fun x H'=>∃ k,TruV X.K x H' k∧Q k H'):=by
 intro pins s σ H Q I h;exact isTrue_plain (thn (ha pins s σ H _ I h) fun v s1 ⟨x,H1,I1,r1,q1⟩=>tru_ok pins s1 σ H1 x v Q I1 r1 q1) (he _)
theorem op_add_str:OpR X (binaryOp .Add) (fun x y H Q=>∃ i j,x=.str i∧y=.str j∧i.length+j.length≤sizeLine∧Q (.str (i++j)) H):=by
 intro pins s σ H x y v u Q I rx ry h;obtain ⟨i,j,rfl,rfl,hz,q⟩:=h;obtain ⟨t,rfl⟩:=rx;obtain ⟨t',rfl⟩:=ry;exact add_str (fun t' tk=>⟨.str (i++j),H,I.tok _,⟨_,rfl⟩,q⟩) hz
theorem vals1 {x:V} {us:List Value} (r:Vals [x] us):∃ u,us=[u]∧RelV x u:=by
 cases r with
 | cons r1 r2=>cases r2;exact ⟨_,rfl,r1⟩
theorem call_abs:zel X (.builtin "abs") (fun xs H Q=>∃ i,xs=[.int i]∧Q (.int (if i < 0 then -i else i)) H):=by
 intro pins s σ H xs us Q I r h;obtain ⟨i,rfl,q⟩:=h;obtain ⟨u,rfl,t,rfl⟩:=vals1 r;exact call_abs_int fun u tk=>⟨.int (if i < 0 then -i else i),H,I.tok _,⟨_,rfl⟩,q⟩
theorem call_int1:zel X (.type "int") (fun xs H Q=>(∃ i,xs=[.int i]∧Q (.int i) H)∨∃ k,xs=[.bl k]∧Q (.int (if k then 1 else 0)) H):=by
 intro pins s σ H xs us Q I r h;rcases h with ⟨i,rfl,q⟩ | ⟨k,rfl,q⟩
 ·obtain ⟨u,rfl,t,rfl⟩:=vals1 r;exact call_int_int ⟨.int i,H,I,⟨_,rfl⟩,q⟩
 ·obtain ⟨u,rfl,r1⟩:=vals1 r
  cases r1
  exact call_int_bool ⟨.int (if k then 1 else 0),H,I.tok _,⟨_,rfl⟩,q⟩
end
end L2
namespace L2
open PySem PySem.Spec PyProof.Rows
structure ObjM (h:Heap) (x dx C:Addr) (mA:Str→Option Value):Prop where
 obj:h.get? x=some (instObj C dx)
 ns:h.Ns1 dx mA
 ne:dx≠x
theorem zg7 {h:Heap} {dx:Addr} {mA:Str→Option Value} (n:h.Ns1 dx mA):∃ od,h.get? dx=some od∧∀ name,lookIn name od=some (mA name):=by
 obtain ⟨o,es,ep,ho,hd,hk,_,hm⟩:=n;refine ⟨o,ho,fun name=>?_⟩;have e:=hm name;unfold nsFind findBy at e;rw [← Array.find?_toList] at e;unfold lookIn;rw [hd];dsimp only;split
 ·rename_i y q
  rw [q] at e;exact congrArg some e
 ·rename_i q
  rw [q] at e;have a:es.toList.any (·.refKey)=false:=by
   rw [List.any_eq_false];intro y hy;obtain ⟨z,t,hkey⟩:=hk y (Array.mem_toList_iff.mp hy);simp [DictEntry.refKey,hkey]
  have a':¬es.toList.any (·.refKey)=true:=by rw [a];exact Bool.false_ne_true
  rw [if_neg a'];exact congrArg some e
theorem ObjM.look {h:Heap} {x dx C:Addr} {mA:Str→Option Value} (I:ObjM h x dx C mA):∃ od,PySem.W.InstAt h x (instObj C dx) C (some od)∧∀ name,lookIn name od=some (mA name) :=
 let ⟨od,ho,hl⟩:=zg7 I.ns
 ⟨od,⟨I.obj,rfl,rfl,ho⟩,hl⟩
section
variable {prog:Program} {w:World} {A:Around} {E:Value→Shared→Prop} {s:Shared} {K:PySem.W.Frag} {x dx C f:Addr} {mA:Str→Option Value} {name:Str} {v:Value}
theorem zjy {expr:Bool} {Q:Value→Shared→Prop} (X:K.In s.heap) (I:ObjM s.heap x dx C mA) (hg:plainGet K C name=true) (hh:PySem.W.hasDictIn K C=true)
  (ha:PySem.W.findIn K (.ref C) name=some none) (hv:mA name=some v) (hv':handedIn v=true) (h:Q v { s with toks:=s.toks+1 }) :
  wpAny (model prog w) A (getAttr (.ref x) name expr) Q E s:=by
 obtain ⟨od,J,hl⟩:=I.look;exact PySem.W.get_value X J (plainGet_of hg).1 (PySem.W.findObj_own hh ha rfl (by rw [hl,hv])) hv' h
theorem ziq {pl:Sem Bool} {Q:Value×List Value→Shared→Prop} (X:K.In s.heap) (I:ObjM s.heap x dx C mA) (hg:plainGet K C name=true)
  (hf:PySem.W.findIn K (.ref C) name=some (some (.ref f))) (ht:isFn K (.ref f)=true) (hv:mA name=none) (h:Q (.ref f,[.ref x]) s) :
  wpAny (model prog w) A (getMethod (.ref x) name pl) Q E s:=by
 obtain ⟨od,J,hl⟩:=I.look;exact PySem.W.method_fn X J (plainGet_of hg).1 (plainGet_of hg).2 hf (beq_iff_eq.mp ht) (by show (lookIn name od).map (·.isSome)=some false;rw [hl,hv];rfl) h
theorem zjz {ns:List Str} {Q:Unit→Shared→Prop} (X:K.In s.heap) (I:ObjM s.heap x dx C mA)
  (hs:PySem.W.findIn K (.ref C) "__setattr__"=some (some (.builtin "object.__setattr__"))) (hp:plainOver K C=true) (ht:takerIn K C name=some none) (hh:PySem.W.hasDictIn K C=true)
  (hw:PySem.Within mA ns) (hsz:ns.length≤sizeLine)
  (h:∀ h',ObjM h' x dx C (fun y=>if y=name then some v else mA y)→Heap.SameBut dx s.heap h'→Q () { s with heap:=h',toks:=s.toks+2 }) :
  wpAny (model prog w) A (setAttr (.ref x) name v) Q E s:=by
 obtain ⟨od,J,hl⟩:=I.look;refine PySem.W.set_plain X J hs (PySem.W.osa_open (s:={ s with toks:=s.toks+1 }) (r:=none) X J hp ht fun b=>?_);obtain ⟨cd,hc,hd'⟩:=PySem.W.any_some hh;have hx:s.heap.get? x=some ⟨.ref C,some dx,.plain,#[]⟩:=I.obj;refine wpAny_bind (wpAny_pure (wpAny_bind (wpAny_bind (wpAny_loadPart hx (wpAny_bind (PySem.W.Looks.here (s:={ s with toks:=s.toks+1 }) (PySem.W.looks_clsIn X hc) ?_))))));rw [hd'];refine wpAny_pure (a:=some dx) (wpAny_bind (wpAny_pure (wpAny_bind ?_)));refine wpAny_nsSet1 (s:={ s with toks:=s.toks+1 }) I.ns fun h' hn2 hs2=>?_;obtain ⟨oD,esD,epD,hoD,hdD,hcD⟩:=hn2.count (PySem.Within.cons name v hw);refine wpAny_bind (wpAny_lookBehind hoD (by rw [hdD];exact pastItsLine_dict (Nat.le_trans hcD (by rw [length_cons];omega))) ?_);exact wpAny_pure (h _ ⟨(hs2.2 _ (Ne.symm I.ne)).trans I.obj,hn2,I.ne⟩ hs2)
theorem zir {R:Result→Shared→Prop} {vs:List Value} {kw:List (Str×Value)} (X:K.In s.heap) (hm:makesIn K C=true)
  (hi:PySem.W.findIn K (.ref C) "__init__"=some (some (.ref f))) (hf:PySem.W.typeIn K (.ref f)=some (.type "function"))
  (h:codeAny (model prog w) (A.under (.builtin "type.__call__" ⟨.ref C::vs,kw⟩)) (.call (.ref f) ⟨.ref (s.heap.objs.size+1)::vs,kw⟩) (PySem.W.InitBack (s.heap.objs.size+1) R)
   { s with heap:=(s.heap.push emptyDict).push (instObj C s.heap.objs.size) }) :
  codeAny (model prog w) A (.call (.ref C) ⟨vs,kw⟩) R s:=by
 obtain ⟨hh,g,d,t,os⟩:=s;exact PySem.W.make_core (PySem.W.makes_of X hm) (PySem.W.looks_findIn X hi) (fun self=>PySem.W.bind_fn X self hf) (.inl rfl) h
end
def putF (f:Str) (v:V):List (Str×V)→List (Str×V)
 | []=>[(f,v)]
 | (g,x)::r=>if g=f then (g,v)::r else (g,x)::putF f v r
theorem zat (f g:Str) (v:V):∀ fs:List (Str×V),(putF f v fs).lookup g=if g=f then some v else fs.lookup g
 | []=>by
   show List.lookup g [(f,v)]=_
   by_cases h:g=f
   ·have hb:(g == f)=true:=beq_iff_eq.mpr h;simp only [List.lookup,hb,if_pos h]
   ·have hb:(g == f)=false:=beq_eq_false_iff_ne.mpr h;simp only [List.lookup,hb,if_neg h]
 | (k,x)::r=>by
  have ih:=zat f g v r;rw [show putF f v ((k,x)::r)=(if k=f then (k,v)::r else (k,x)::putF f v r) from rfl]
  by_cases hk:k=f
  ·rw [if_pos hk]
   by_cases h:g=k
   ·have hb:(g == k)=true:=beq_iff_eq.mpr h;simp only [List.lookup,hb,if_pos (h.trans hk)]
   ·have hb:(g == k)=false:=beq_eq_false_iff_ne.mpr h;simp only [List.lookup,hb,if_neg (fun e:g=f=>h (e.trans hk.symm))]
  ·rw [if_neg hk]
   by_cases h:g=k
   ·have hb:(g == k)=true:=beq_iff_eq.mpr h;simp only [List.lookup,hb,if_neg (fun e:g=f=>hk (h.symm.trans e))]
   ·have hb:(g == k)=false:=beq_eq_false_iff_ne.mpr h;simp only [List.lookup,hb];exact ih
theorem zdy (f:Str) (v:V):∀ fs:List (Str×V),f∈(putF f v fs).map (·.1)∧∀ g,g∈fs.map (·.1)→g∈(putF f v fs).map (·.1)
 | []=>⟨by simp [putF],fun g h=>by simp at h⟩
 | (k,x)::r=>by
  obtain ⟨i1,i2⟩:=zdy f v r;rw [show putF f v ((k,x)::r)=(if k=f then (k,v)::r else (k,x)::putF f v r) from rfl]
  by_cases hk:k=f
  ·rw [if_pos hk];subst hk;exact ⟨by simp,fun g h=>by simpa using h⟩
  ·rw [if_neg hk];refine ⟨?_,fun g h=>?_⟩
   ·rw [map_cons];exact mem_cons_of_mem _ i1
   ·rw [map_cons] at h ⊢;rcases mem_cons.mp h with e | e
    ·exact mem_cons.mpr (.inl e)
    ·exact mem_cons_of_mem _ (i2 g e)
theorem zdz (f:Str) (v:V):∀ fs:List (Str×V),(putF f v fs).length≤fs.length+1
 | []=>by simp [putF]
 | (k,x)::r=>by
  have ih:=zdz f v r;rw [show putF f v ((k,x)::r)=(if k=f then (k,v)::r else (k,x)::putF f v r) from rfl]
  by_cases hk:k=f
  ·rw [if_pos hk,length_cons,length_cons];omega
  ·rw [if_neg hk,length_cons,length_cons];omega
theorem RelO.some_of {v:V} {o:Option Value} (r:RelO (some v) o):∃ u,o=some u∧RelV v u:=by
 cases o with
 | none=>exact (show False from r).elim
 | some u=>exact ⟨u,rfl,r⟩
theorem RelO.none_of {o:Option Value} (r:RelO none o):o=none:=by
 cases o with
 | none=>rfl
 | some u=>exact (show False from r).elim
theorem zg8 {v:V} {u:Value} (r:RelV v u):handedIn u=true:=by
 cases v with
 | non=>cases (show u=Value.none from r);rfl
 | bl b=>cases (show u=Value.bool b from r);rfl
 | int i=>obtain ⟨t,e⟩:=(show ∃ t,u=Value.int i t from r);cases e;rfl
 | str x=>obtain ⟨t,e⟩:=(show ∃ t,u=Value.str x t from r);cases e;rfl
 | byt b=>obtain ⟨t,e⟩:=(show ∃ t,u=Value.bytes b t from r);cases e;rfl
 | flt b=>obtain ⟨t,e⟩:=(show ∃ t,u=Value.float b t from r);cases e;rfl
 | ref a=>cases (show u=Value.ref a from r);rfl
 | ty n=>cases (show u=Value.type n from r);rfl
section
variable {P:Program} {w:World} {H H':Hp} {h h':Heap} {a C dx:Addr} {fs fs':List (Str×V)}
theorem zem (hok:HOk P w H h) (e:H a=some (.ins C dx fs)):∃ mA,ObjM h a dx C mA∧(∀ f,RelO (fs.lookup f) (mA f))∧PySem.Within mA (fs.map (·.1))∧fs.length≤1000∧H dx=some (.own a):=by
 obtain ⟨d,z,ne,ob,mA,n,r,q⟩:=(show zbn P w H h a (.ins C dx fs) from hok a _ e)
 exact ⟨mA,⟨ob,n,ne⟩,r,q,z,d⟩
end
structure Cls (K:PySem.W.Frag) (C:Addr):Prop where
 pg:plainGet K C Str.empty=true
 hd:PySem.W.hasDictIn K C=true
 po:plainOver K C=true
 sa:PySem.W.findIn K (.ref C) "__setattr__"=some (some (.builtin "object.__setattr__"))
theorem Cls.get {K:PySem.W.Frag} {C:Addr} (c:Cls K C) (f:Str):plainGet K C f=true:=c.pg
def zbp (K:PySem.W.Frag) (C:Addr) (f:Str):Prop:=PySem.W.findIn K (.ref C) f=some none
theorem zbp.taker {K:PySem.W.Frag} {C:Addr} {f:Str} (n:zbp K C f):takerIn K C f=some none:=by
 unfold takerIn;rw [show PySem.W.findIn K (.ref C) f=some none from n];rfl
structure Meth (K:PySem.W.Frag) (C:Addr) (m:Str) (f:Addr):Prop where
 at_:PySem.W.findIn K (.ref C) m=some (some (.ref f))
 fn:isFn K (.ref f)=true
 kp:keepIn K (.ref f)=true
section
variable {X:Cx} {pins:List (Addr×Obj)} {σ:St} {H:Hp} {s:Shared} {a C dx:Addr} {fs:List (Str×V)} {f:Str} {v:V} {A:Around} {E:Value→Shared→Prop}
theorem zgs {b:Bool} {Q:Value→Shared→Prop} (I:Inv X pins σ H s) (e:H a=some (.ins C dx fs)) (c:Cls X.K C) (n:zbp X.K C f) (l:fs.lookup f=some v)
  (h:∀ u s',Inv X pins σ H s'→RelV v u→Q u s'):wpAny (model X.prog X.w) A (getAttr (.ref a) f b) Q E s:=by
 obtain ⟨mA,O,r,_,_,_⟩:=zem I.hok e;obtain ⟨u,hu,ru⟩:=RelO.some_of (v:=v) (o:=mA f) (by rw [← l];exact r f);exact zjy I.kIn O (c.get f) c.hd n hu (zg8 ru) (h u _ (I.tok _) ru)
theorem zd2 {m:Str} {g:Addr} {pl:Sem Bool} {Q:Value×List Value→Shared→Prop} (I:Inv X pins σ H s) (e:H a=some (.ins C dx fs)) (c:Cls X.K C) (k:Meth X.K C m g) (l:fs.lookup m=none)
  (h:Q (.ref g,[.ref a]) s):wpAny (model X.prog X.w) A (getMethod (.ref a) m pl) Q E s:=by
 obtain ⟨mA,O,r,_,_,_⟩:=zem I.hok e;have hn:mA m=none:=RelO.none_of (by rw [← l];exact r m);exact ziq I.kIn O (c.get m) k.at_ k.fn hn h
theorem zgt {y:V} {u:Value} {Q:Unit→Shared→Prop} (I:Inv X pins σ H s) (e:H a=some (.ins C dx fs)) (c:Cls X.K C) (n:zbp X.K C f) (hl:fs.length < 1000) (ry:RelV y u)
  (h:∀ s',Inv X pins σ (upd H a (.ins C dx (putF f y fs))) s'→Q () s'):wpAny (model X.prog X.w) A (setAttr (.ref a) f u) Q E s:=by
 obtain ⟨mA,O,r,wi,_,ho⟩:=zem I.hok e;have hz:(fs.map (·.1)).length≤sizeLine:=by rw [length_map,sizeLine_eq];omega
 refine zjz I.kIn O c.sa c.po n.taker c.hd wi hz fun h' O' sb=>h _ ?_;have hd:∃ o,h'.get? dx=some o:=let ⟨o,_,_,e',_⟩:=O'.ns;⟨o,e'⟩;refine I.write (x:=a) (e:=dx) (by rw [e];exact True.intro) (.inr ho) (fun b q hb z=>(sb.2 b hb).trans z) hd ?_;refine ⟨by rw [zav O.ne];exact ho,?_,O.ne,O'.obj,_,O'.ns,fun g=>?_,fun g hg=>?_⟩
 ·have:=zdz f y fs;omega
 ·show RelO ((putF f y fs).lookup g) (if g=f then some u else mA g);rw [zat]
  by_cases q:g=f
  ·rw [if_pos q,if_pos q];exact ry
  ·rw [if_neg q,if_neg q];exact r g
 ·by_cases q:g=f
  ·rw [q];exact (zdy f y fs).1
  ·refine (zdy f y fs).2 g (wi g fun z=>hg ?_);show (if g=f then some u else mA g)=none;rw [if_neg q];exact z
theorem Inv.made (I:Inv X pins σ H s):Inv X pins σ (upd (upd H s.heap.objs.size (.own (s.heap.objs.size+1))) (s.heap.objs.size+1) (.ins C s.heap.objs.size []))
  { s with heap:=(s.heap.push emptyDict).push (instObj C s.heap.objs.size) }:=by
 have e1:(s.heap.push emptyDict).get? s.heap.objs.size=some emptyDict:=Heap.get?_push_size s.heap rfl;have e2:((s.heap.push emptyDict).push (instObj C s.heap.objs.size)).get? (s.heap.objs.size+1)=some (instObj C s.heap.objs.size):=by
  have:=Heap.get?_push_size (s.heap.push emptyDict) (o:=instObj C s.heap.objs.size) rfl
  rwa [Heap.size_push] at this
 have e3:(s.heap.push emptyDict).Ns s.heap.objs.size (fun _=>none):=⟨emptyDict,#[],_,e1,rfl,(fun e he=>absurd he (by simp)),fun _=>rfl⟩
 have I1:=I.laid (a:=s.heap.objs.size) (o:=.own (s.heap.objs.size+1)) (h':=s.heap.push emptyDict) (t':=s.toks) (fun b u q=>Heap.get?_push_of_some _ q) (Nat.le_refl _) ⟨_,e1⟩;refine I1.laid (a:=s.heap.objs.size+1) (o:=.ins C s.heap.objs.size []) (t':=s.toks) (fun b u q=>Heap.get?_push_of_some _ q) (Nat.le_of_eq (Heap.size_push _ _)) ?_;have ne:s.heap.objs.size≠s.heap.objs.size+1:=Nat.ne_of_lt (Nat.lt_succ_self _);refine ⟨by rw [zav ne,zao],zero_le _,ne,e2,fun _=>none,(Heap.Ns1.of_empty e3).at fun o q=>Heap.get?_push_of_some _ q,fun _=>True.intro,fun y hy=>absurd rfl hy⟩
theorem zjA {prog:Program} {w:World} {env:Env} {e:Expr} {f:Str} {pos:Pos} {s:Shared} {Q:Value→Shared→Prop} (hb:attributeBase e f env (eval e env)=eval e env)
  (h:wpAny (model prog w) A (eval e env) (fun o s₁=>wpAny (model prog w) A (getAttr o f true) Q E s₁) E s):wpAny (model prog w) A (eval (.Attribute e f pos) env) Q E s :=
 Attribute_any_ h (by rw [arm_eval_Attribute,hb])
end
def tFld (K:PySem.W.Frag) (ta:TE) (f:Str):TE:=fun σ H Q=>ta σ H fun x H1=>∃ a C dx fs v,x=.ref a∧H1 a=some (.ins C dx fs)∧Cls K C∧zbp K C f∧fs.lookup f=some v∧Q v H1
def sFld (K:PySem.W.Frag) (ta tv:TE) (f:Str):TS:=fun D σ H=>tv σ H fun y H1=>ta σ H1 fun x H2=>∃ a C dx fs,x=.ref a∧H2 a=some (.ins C dx fs)∧Cls K C∧zbp K C f∧fs.length < 1000 ∧
 D.nx σ (upd H2 a (.ins C dx (putF f y fs)))
section
variable {X:Cx} {o e value:Expr} {f:Str} {pos pos' tpos:Pos} {ta tv:TE}
theorem zku (he:PE X e ta) (hb:attributeBase e f X.env (eval e X.env)=eval e X.env):PE X (.Attribute e f pos) (tFld X.K ta f):=by
 intro pins s σ H Q I h;refine zjA hb (thn (he pins s σ H _ I h) fun u s1 ⟨x,H1,I1,rx,a,C,dx,fs,v,ex,ea,c,n,l,q⟩=>?_);subst ex;obtain rfl:u=Value.ref a:=rx;exact zgs I1 ea c n l fun u' s2 I2 ru=>⟨v,H1,I2,ru,q⟩
theorem zkv (ha:PE X o ta) (hv:PE X value tv) (hs:swapsWith value (some (.Attribute o f pos')) pos.line X.env=pure false):PS X (.Assign [.Attribute o f pos'] value pos) (sFld X.K ta tv f):=by
 intro pins s σ H D I h;refine plainObj_wpAny_Assign_Attribute (thn (hv pins s σ H _ I h) fun u s1 ⟨y,H1,I1,ry,q⟩=>thn (ha pins s1 σ H1 _ I1 q) fun ov s2 ⟨x,H2,I2,rx,a,C,dx,fs,ex,ea,c,n,l,q2⟩=>?_) hs;subst ex;obtain rfl:ov=Value.ref a:=rx;exact zgt I2 ea c n l ry fun s3 I3=>⟨σ,_,I3,q2⟩
end
section
variable {X:Cx} {pins:List (Addr×Obj)} {σ:St} {H:Hp} {s:Shared} {A:Around} {E:Value→Shared→Prop} {Q:Value→Shared→Prop} {c:Value} {b:Bool}
inductive TyOf (K:PySem.W.Frag) (H:Hp):V→Value→Prop where
 | non:TyOf K H .non (.type "NoneType")
 | bl (x:Bool):TyOf K H (.bl x) (.type "bool")
 | int (i:Int):TyOf K H (.int i) (.type "int")
 | str (x:Str):TyOf K H (.str x) (.type "str")
 | flt (x:UInt64):TyOf K H (.flt x) (.type "float")
 | lst {a:Addr} {xs:List V} (e:H a=some (.lst xs)):TyOf K H (.ref a) (.type "list")
 | frz {a:Addr} {o:Obj} {xs:List V} (e:H a=some (.frz o (.lst xs))):TyOf K H (.ref a) (.type "list")
 | tup {a:Addr} {xs:List V} (e:H a=some (.tup xs)):TyOf K H (.ref a) (.type "tuple")
 | dK {a:Addr} {kvs:List (Key×V)} (e:H a=some (.dK kvs)):TyOf K H (.ref a) (.type "dict")
 | dT {a:Addr} {kvs:List (List Key×V)} (e:H a=some (.dT kvs)):TyOf K H (.ref a) (.type "dict")
 | ins {a C dx:Addr} {fs:List (Str×V)} (e:H a=some (.ins C dx fs)) (cl:Cls K C) (ha:PySem.W.findIn K (.ref C) "__class__"=some (some (.builtin "object.__class__")))
    (hn:PySem.W.specialIn K (.builtin "object.__class__") "__get__"=some (some (.builtin "getset_descriptor.__get__"))) (htk:PySem.W.takesIn K (.builtin "object.__class__")=some true)
    (hm:PySem.W.mroIn K C (.type "object")=some true):TyOf K H (.ref a) (.ref C)
theorem zg9 {x:V} {u t:Value} (I:Inv X pins σ H s) (rx:RelV x u) (ty:TyOf X.K H x t) (e:PySem.W.kitOne X.K t c=some b) (h:∀ tk,Q (.bool b) { s with toks:=tk }) :
  wpAny (model X.prog X.w) A (call (.builtin "isinstance") [u,c]) Q E s:=by
 cases ty with
 | non=>cases (show u=Value.none from rx);exact kia_one PySem.W.kitx_none I.kIn True.intro e (fun z=>nomatch z) h
 | bl y=>cases (show u=Value.bool y from rx);exact kia_one PySem.W.kitx_bool I.kIn True.intro e (fun z=>nomatch z) h
 | int i=>obtain ⟨t,q⟩:=(show ∃ t,u=Value.int i t from rx);cases q;exact kia_one PySem.W.kitx_int I.kIn True.intro e (fun z=>nomatch z) h
 | str y=>obtain ⟨t,q⟩:=(show ∃ t,u=Value.str y t from rx);cases q;exact kia_one PySem.W.kitx_str I.kIn True.intro e (fun z=>nomatch z) h
 | flt y=>obtain ⟨t,q⟩:=(show ∃ t,u=Value.float y t from rx);cases q;exact kia_one PySem.W.kitx_float I.kIn True.intro e (fun z=>nomatch z) h
 | @lst a xs ea =>
   cases (show u=Value.ref a from rx)
   obtain ⟨_,_,n,_,h1⟩:=(show zbn X.prog X.w H s.heap a (.lst xs) from I.hok a _ ea)
   exact kia_one kitx_list I.kIn ⟨_,h1,rfl⟩ e (fun z=>nomatch z) h
 | @frz a ob xs ea =>
   cases (show u=Value.ref a from rx)
   obtain ⟨_,_,_,n,_,h1⟩:=(show zbn X.prog X.w H s.heap a (.frz ob (.lst xs)) from I.hok a _ ea)
   exact kia_one kitx_list I.kIn ⟨_,h1,rfl⟩ e (fun z=>nomatch z) h
 | @tup a xs ea =>
   cases (show u=Value.ref a from rx)
   obtain ⟨_,_,_,p⟩:=(show zbn X.prog X.w H s.heap a (.tup xs) from I.hok a _ ea)
   obtain ⟨o,h1,h2,_⟩:=p;exact kia_one PySem.W.kitx_tuple I.kIn ⟨o,h1,h2⟩ e (fun z=>nomatch z) h
 | @dK a kvs ea =>
   cases (show u=Value.ref a from rx)
   obtain ⟨_,_,vs,_,p⟩:=(show zbn X.prog X.w H s.heap a (.dK kvs) from I.hok a _ ea)
   obtain ⟨o,es,ep,h1,h2,_⟩:=p;exact kia_one kitx_dict I.kIn ⟨o,h1,h2.1⟩ e (fun z=>nomatch z) h
 | @dT a kvs ea =>
   cases (show u=Value.ref a from rx)
   obtain ⟨_,_,xs,_,o,es,ep,h1,h2,_⟩:=(show zbn X.prog X.w H s.heap a (.dT kvs) from I.hok a _ ea)
   exact kia_one kitx_dict I.kIn ⟨o,h1,h2.1⟩ e (fun z=>nomatch z) h
 | @ins a C dx fs ea cl ha hn htk hm =>
   cases (show u=Value.ref a from rx)
   obtain ⟨mA,O,_⟩:=zem I.hok ea;obtain ⟨od,J,_⟩:=O.look;exact kia_one (PySem.W.kitx_own (cl.get _) cl.hd ha hn htk hm) I.kIn J e (fun z=>nomatch z) h
end
end L2
namespace L2
open PySem PySem.Spec PyProof.Rows
structure Room (k:Nat) (A:Around):Prop where
 hd:A.handled=none
 dp:A.depth+3 * k+5 < recursionLimit
 un:A.units+16 * k+200 < cLine
theorem Room.mono {j k:Nat} {A:Around} (r:Room k A) (h:j≤k):Room j A:=⟨r.hd,by have:=r.dp;omega,by have:=r.un;omega⟩
theorem Room.deeper {k:Nat} {A:Around} (r:Room (k+1) A) (env:Env):Room k (A.deeper env) :=
 ⟨r.hd,by have:=r.dp;show A.depth+1+3 * k+5 < _;omega,by have:=r.un;show A.units+3+16 * k+200 < _;omega⟩
theorem zgu {A:Around} {C:Addr} {us:List Value} {kw:List (Str×Value)}:(A.under (.builtin "type.__call__" ⟨.ref C::us,kw⟩)).depth=A.depth+1:=by
 first | rfl | simp [Around.under,Code.weight,Code.isCreation,Code.isGuard,Code.isCaller,Code.frames,Code.isFrame,guardIds]
theorem zgv {A:Around} {C:Addr} {us:List Value} {kw:List (Str×Value)}:(A.under (.builtin "type.__call__" ⟨.ref C::us,kw⟩)).units=A.units+1:=by
 first | rfl | simp [Around.under,Code.cUnits,Code.frames,Code.isFrame]
theorem Room.make {k:Nat} {A:Around} (r:Room (k+1) A) (C:Addr) (us:List Value) (kw:List (Str×Value)):Room k (A.under (.builtin "type.__call__" ⟨.ref C::us,kw⟩)) :=
 ⟨r.hd,by have:=r.dp;rw [zgu];omega,by have:=r.un;rw [zgv];omega⟩
theorem Room.depth {k:Nat} {A:Around} (r:Room k A):A.depth < recursionLimit:=by have:=r.dp;omega
theorem Room.units {k:Nat} {A:Around} (r:Room k A):A.units+64 < cLine:=by have:=r.un;omega
theorem Room.units0 {k:Nat} {A:Around} (r:Room k A):A.units < cLine:=by have:=r.un;omega
def tNil:TA:=fun _ H Q=>Q [] H
def zfq (ta:TE) (tr:TA):TA:=fun σ H Q=>ta σ H fun x H1=>tr σ H1 fun xs H2=>Q (x::xs) H2
section
variable {X:Cx} {e:Expr} {es:List Expr} {te:TE} {t:TA} {pos:Pos}
theorem pa_nil:PA X [] tNil:=fun _ _ _ _ H Q I h=>Calls.spliced_nil ⟨[],H,I,.nil,h⟩
theorem zaa (ha:PE X e te) (hr:PA X es t) (hs:starEach (e::es) X.env=(false,eval e X.env)::starEach es X.env:=by rfl):PA X (e::es) (zfq te t):=by
 intro pos pins s σ H Q I h;rw [hs];show wpAny _ _ (spliced ((false,eval e X.env)::backTo pos (starEach es X.env))) _ _ s;refine Calls.spliced_cons (thn (ha pins s σ H _ I h) fun u s1 ⟨x,H1,I1,r1,q1⟩=>?_);exact thn (hr pos pins s1 σ H1 _ I1 q1) fun us s2 ⟨xs,H2,I2,r2,q2⟩=>⟨x::xs,H2,I2,.cons r1 r2,q2⟩
def tLst (t:TA):TE:=fun σ H Q=>t σ H fun xs H1=>xs.length≤sizeLine∧∀ p,H1 p=none→Q (.ref p) (upd H1 p (.lst xs))
theorem zax (h:PA X es t):PE X (.List es pos) (tLst t):=by
 intro pins s σ H Q I hq;refine wpAny_List_spliced (thn (h pos pins s σ H _ I hq) fun us s1 ⟨xs,H1,I1,r,z,q⟩=>⟨by rw [← r.length];exact z,?_⟩);have hf:H1 s1.heap.objs.size=none:=I1.hok.fresh (Nat.le_refl _);refine ⟨.ref s1.heap.objs.size,upd H1 s1.heap.objs.size (.lst xs),I1.laid (t':=s1.toks) (fun b u e=>Heap.get?_push_of_some _ e) (Nat.le_refl _) ?_,rfl,q _ hf⟩;exact ⟨z,us,0,r,Heap.get?_push_size _ rfl⟩
end
abbrev Sp:=List V→Hp→VK→XK→Prop
abbrev CXT:=List Env→Hp→Shared→XK→Value→Shared→Prop
structure Env0 (P:Program) (w:World) (K:PySem.W.Frag) (mg:Str→Option Value) (base:Heap) (A:Around) (outer:List Env) (s:Shared) (H:Hp):Prop where
 frames:A.frames=some outer
 mod:Mod K mg base
 bs:∀ b o,base.get? b=some o→s.heap.get? b=some o∧H b=none
 bsz:base.objs.size≤s.heap.objs.size
 funs:s.heap.FunFrames base outer
 frf:∀ b∈frs outer,H b=none
 hok:HOk P w H s.heap
 bare:AllBare s.gens
def CE (outer:List Env) (P:Program) (w:World) (H:Hp) (s:Shared) (Q:VK) (u:Value) (s':Shared):Prop :=
 ∃ v H',s'.os=s.os∧AllBare s'.gens∧Un (frs outer) [] H H' s.heap s'.heap∧HOk P w H' s'.heap∧RelV v u∧Q v H'
def CR (CX:CXT) (outer:List Env) (P:Program) (w:World) (H:Hp) (s:Shared) (Q:VK) (E:XK) (r:Result) (s':Shared):Prop :=
 match r with
 | .ok (.ret u)=>CE outer P w H s Q u s'
 | .ok _=>False
 | .error e=>CX outer H s E e s'
structure FnOk (P:Program) (w:World) (K:PySem.W.Frag) (mg:Str→Option Value) (base:Heap) (CX:CXT) (k:Nat) (f:Addr) (fd:FuncData) (ps:List Str) (sp:Sp):Prop where
 len:∀ vs H Q E,sp vs H Q E→vs.length=ps.length
 run:∀ (A:Around) (outer:List Env) (s:Shared) (H:Hp) (args:Args) (us:List Value) (vs:List V) (Q:VK) (E:XK),Room k A→Env0 P w K mg base A outer s H→BindsTo s fd args (ps.zip us)→Vals vs us→sp vs H Q E →
  codeAny (model P w) A (.call (.ref f) args) (CR CX outer P w H s Q E) s
theorem Env0.make {P:Program} {w:World} {K:PySem.W.Frag} {mg:Str→Option Value} {base:Heap} {A:Around} {outer:List Env} {s:Shared} {H:Hp} (e:Env0 P w K mg base A outer s H) (C:Addr) (us:List Value) (kw:List (Str×Value)) :
  Env0 P w K mg base (A.under (.builtin "type.__call__" ⟨.ref C::us,kw⟩)) outer s H:=⟨by first | exact e.frames | (simpa [Around.under,Code.envs,Code.isFrame,pushEnvs] using e.frames),e.mod,e.bs,e.bsz,e.funs,e.frf,e.hok,e.bare⟩
section
variable {X:Cx} {pins:List (Addr×Obj)} {σ:St} {H:Hp} {s s':Shared}
theorem Inv.env0 (I:Inv X pins σ H s):Env0 X.prog X.w X.K X.mg X.base X.A X.stack s H :=
 ⟨I.ok.frames,I.ok.mod,I.bs,Nat.le_trans I.ok.bsz I.sz,I.stack,I.stkFree,I.hok,I.bare⟩
theorem Inv.after {Q:VK} {u:Value} (I:Inv X pins σ H s) (h:CE X.stack X.prog X.w H s Q u s'):EP X pins σ Q u s':=by
 obtain ⟨v,H',os,bare,un,hok,r,q⟩:=h;obtain ⟨hh,g,d,t,os'⟩:=s';obtain rfl:os'=s.os:=os;exact ⟨v,H',I.call (h':=hh) (g':=g) (d':=d) (t':=t) (ch:=[]) un hok bare (fun b z=>absurd z (by simp)),r,q⟩
end
def zis (sp:Sp) (dvs:List V) (E:XK) (t:TA):TE:=fun σ H Q=>t σ H fun vs H1=>sp (vs++dvs) H1 Q E
def zjB (C:Addr) (m:Str) (sp:Sp) (dvs:List V) (E:XK) (ta:TE) (t:TA):TE:=fun σ H Q=>ta σ H fun x H1=>∃ a dx fs,x=.ref a∧H1 a=some (.ins C dx fs)∧fs.lookup m=none ∧
 t σ H1 fun vs H2=>sp (x::(vs++dvs)) H2 Q E
def zjC (C:Addr) (sp:Sp) (dvs:List V) (E:XK) (t:TA):TE:=fun σ H Q=>t σ H fun vs H1=>∀ x dx,H1 x=none→H1 dx=none→dx≠x →
 sp (.ref x::(vs++dvs)) (upd (upd H1 dx (.own x)) x (.ins C dx [])) (fun v H2=>v=.non∧Q (.ref x) H2) E
def Binds (K:PySem.W.Frag) (fd:FuncData) (ps:List Str) (ds:List Value):Prop :=
 ∀ (s:Shared) (us:List Value),K.In s.heap→(us++ds).length=ps.length→BindsTo s fd ⟨us,[]⟩ (ps.zip (us++ds))
theorem Binds.all {K:PySem.W.Frag} {fd:FuncData} {ps:List Str} (h:∀ us:List Value,us.length=ps.length→bindArgs fd ⟨us,[]⟩=pure (ps.zip us)):Binds K fd ps []:=fun s us _ hl=>by
 rw [append_nil] at hl ⊢;exact .of_eq (h us hl)
def zcA (CX:CXT) (X:Cx) (E:XK):Prop:=∀ (pins:List (Addr×Obj)) (σ:St) (H:Hp) (s:Shared) (e:Value) (s':Shared),Inv X pins σ H s→CX X.stack H s E e s'→X.xe e s'
section
variable {X:Cx} {CX:CXT} {k:Nat} {f C:Addr} {fd:FuncData} {ps:List Str} {sp:Sp} {dvs:List V} {ds:List Value} {E:XK} {x m:Str} {p pos apos:Pos} {e o:Expr} {es:List Expr} {ta:TE} {t:TA}
theorem zha {pins:List (Addr×Obj)} {σ:St} {H:Hp} {s:Shared} {Q:VK} {us:List Value} {vs:List V} (F:FnOk X.prog X.w X.K X.mg X.base CX k f fd ps sp) (hr:Room k X.A) (hb:Binds X.K fd ps ds) (hd:Vals dvs ds) (hx:zcA CX X E)
  (I:Inv X pins σ H s) (r:Vals vs us) (h:sp (vs++dvs) H Q E):wpAny (model X.prog X.w) X.A (call (.ref f) us) (EP X pins σ Q) X.xe s:=by
 have r2:Vals (vs++dvs) (us++ds):=r.append hd;have hl:(us++ds).length=ps.length:=by rw [← r2.length];exact F.len _ _ _ _ h
 refine wpAny_call (codeAny_mono (F.run X.A X.stack s H ⟨us,[]⟩ (us++ds) (vs++dvs) Q E hr I.env0 (hb s us I.kIn hl) r2 h) fun r s' hq=>?_)
 cases r with
 | error e=>exact hx pins σ H s e s' I hq
 | ok fl =>
   cases fl with
   | ret u=>exact I.after hq
   | next=>exact False.elim hq
   | brk=>exact False.elim hq
   | cont=>exact False.elim hq
theorem zar (F:FnOk X.prog X.w X.K X.mg X.base CX k f fd ps sp) (hr:Room k X.A) (hg:Gl X x) (hm:X.mg x=some (.ref f)) (hk:keepIn X.K (.ref f)=true) (hb:Binds X.K fd ps ds) (hd:Vals dvs ds) (hx:zcA CX X E)
  (ha:PA X (e::es) t) (hdb:(x == ("__debug__" : Str))=false:=by decide) (he:starEach (e::es) X.env=(false,eval e X.env)::starEach es X.env:=by rfl) (hpl:(backTo pos (starEach es X.env)).any (·.1)=false:=by rfl) :
  PE X (.Call (.Name x p) (e::es) [] pos) (zis sp dvs E t):=by
 intro pins s σ H Q I h;refine wpAny_Call_Name_kw (zcH I hg hm ?_ hdb);refine callWith_K (h₀:=X.base) I.ok.mod.kin hk (thn (ha pos pins s σ H _ I h) fun us s1 ⟨vs,H1,I1,r,q⟩=>⟨I1.kIn,?_⟩) he hpl;exact zha F hr hb hd hx I1 r q
theorem zaQ {pl:Sem Bool} (he:PE X o ta) (c:Cls X.K C) (hm:Meth X.K C m f) (F:FnOk X.prog X.w X.K X.mg X.base CX k f fd ps sp) (hr:Room k X.A) (hb:Binds X.K fd ps ds) (hd:Vals dvs ds) (hx:zcA CX X E) (ha:PA X (e::es) t)
  (hst:starEach (e::es) X.env=(false,eval e X.env)::starEach es X.env:=by rfl) (hpl:(backTo pos (starEach es X.env)).any (·.1)=false:=by rfl)
  (ht:eval (.Call (.Attribute o m apos) (e::es) [] pos) X.env=(do
   let ov ← eval o X.env
   standAt apos.atName
   let (f,first) ← holding [ov] (getMethod ov m pl)
   callWith pos f first (backTo pos (starEach (e::es) X.env)) (backToKw pos (keywordEach [] X.env))):=by rfl) :
  PE X (.Call (.Attribute o m apos) (e::es) [] pos) (zjB C m sp dvs E ta t):=by
 intro pins s σ H Q I h;refine methodCall_KW (pl:=pl) (thn (he pins s σ H _ I h) fun u s1 ⟨x,H1,I1,rx,a,dx,fs,ex,ea,l,q⟩=>?_) ht;subst ex;obtain rfl:u=Value.ref a:=rx;refine zd2 I1 ea c hm l ?_;refine callWith_K (first:=[.ref a]) (h₀:=X.base) I.ok.mod.kin hm.kp (thn (ha pos pins s1 σ H1 _ I1 q) fun us s2 ⟨vs,H2,I2,r,q2⟩=>⟨I2.kIn,?_⟩) hst hpl;exact zha (us:=.ref a::us) (vs:=.ref a::vs) F hr hb hd hx I2 (.cons rfl r) q2
theorem zbQ {pl:Sem Bool} (he:PE X o ta) (c:Cls X.K C) (hm:Meth X.K C m f) (F:FnOk X.prog X.w X.K X.mg X.base CX k f fd ps sp) (hr:Room k X.A) (hb:Binds X.K fd ps ds) (hd:Vals dvs ds) (hx:zcA CX X E)
  (ht:eval (.Call (.Attribute o m apos) [] [] pos) X.env=(do
   let ov ← eval o X.env
   standAt apos.atName
   let (f,first) ← holding [ov] (getMethod ov m pl)
   callWith pos f first (backTo pos (starEach [] X.env)) (backToKw pos (keywordEach [] X.env))):=by rfl) :
  PE X (.Call (.Attribute o m apos) [] [] pos) (zjB C m sp dvs E ta tNil):=by
 intro pins s σ H Q I h;refine methodCall_KW (pl:=pl) (thn (he pins s σ H _ I h) fun u s1 ⟨x,H1,I1,rx,a,dx,fs,ex,ea,l,q⟩=>?_) ht;subst ex;obtain rfl:u=Value.ref a:=rx;refine zd2 I1 ea c hm l ?_;exact callWith_K0 (first:=[.ref a]) I1.kIn hm.kp (zha (us:=[.ref a]) (vs:=[.ref a]) F hr hb hd hx I1 (.cons rfl .nil) q)
structure Mk (K:PySem.W.Frag) (C f:Addr):Prop where
 makes:makesIn K C=true
 init:PySem.W.findIn K (.ref C) "__init__"=some (some (.ref f))
 fn:isFn K (.ref f)=true
 kp:keepIn K (.ref C)=true
theorem zfY {pins:List (Addr×Obj)} {σ:St} {H:Hp} {s:Shared} {Q:VK} {us:List Value} {vs:List V} (M:Mk X.K C f) (F:FnOk X.prog X.w X.K X.mg X.base CX k f fd ps sp) (hr:Room (k+1) X.A) (hb:Binds X.K fd ps ds) (hd:Vals dvs ds)
  (hx:zcA CX X E) (I:Inv X pins σ H s) (r:Vals vs us)
  (h:∀ x dx,H x=none→H dx=none→dx≠x→sp (.ref x::(vs++dvs)) (upd (upd H dx (.own x)) x (.ins C dx [])) (fun v H2=>v=.non∧Q (.ref x) H2) E) :
  wpAny (model X.prog X.w) X.A (call (.ref C) us) (EP X pins σ Q) X.xe s:=by
 have hq:=h (s.heap.objs.size+1) s.heap.objs.size (I.hok.fresh (le_succ _)) (I.hok.fresh (Nat.le_refl _)) (Nat.ne_of_lt (Nat.lt_succ_self _));have I2:=Inv.made (C:=C) I;have r2:Vals (V.ref (s.heap.objs.size+1)::(vs++dvs)) (Value.ref (s.heap.objs.size+1)::(us++ds)):=.cons rfl (r.append hd);have hl:(Value.ref (s.heap.objs.size+1)::us++ds).length=ps.length:=by
  have e:=r2.length;rw [F.len _ _ _ _ hq] at e;exact e.symm
 refine wpAny_call (zir (f:=f) I.kIn M.makes M.init (beq_iff_eq.mp M.fn) (codeAny_mono (F.run _ X.stack _ _ ⟨Value.ref (s.heap.objs.size+1)::us,[]⟩ (Value.ref (s.heap.objs.size+1)::(us++ds)) _ _ E (hr.make C us [])
  (I2.env0.make C us []) (hb _ (Value.ref (s.heap.objs.size+1)::us) I2.kIn hl) r2 hq) fun r s' hq'=>?_))
 cases r with
 | error e=>exact hx pins σ _ _ e s' I2 hq'
 | ok fl =>
   cases fl with
   | ret u =>
     obtain ⟨v,H',I3,rv,ev,q3⟩:=I2.after hq';subst ev;exact ⟨rv,⟨V.ref (s.heap.objs.size+1),H',I3,rfl,q3⟩⟩
   | next=>exact False.elim hq'
   | brk=>exact False.elim hq'
   | cont=>exact False.elim hq'
theorem zjD (M:Mk X.K C f) (F:FnOk X.prog X.w X.K X.mg X.base CX k f fd ps sp) (hr:Room (k+1) X.A) (hg:Gl X x) (hm:X.mg x=some (.ref C)) (hb:Binds X.K fd ps ds) (hd:Vals dvs ds) (hx:zcA CX X E)
  (ha:PA X (e::es) t) (hdb:(x == ("__debug__" : Str))=false:=by decide) (he:starEach (e::es) X.env=(false,eval e X.env)::starEach es X.env:=by rfl) (hpl:(backTo pos (starEach es X.env)).any (·.1)=false:=by rfl) :
  PE X (.Call (.Name x p) (e::es) [] pos) (zjC C sp dvs E t):=by
 intro pins s σ H Q I h;refine wpAny_Call_Name_kw (zcH I hg hm ?_ hdb);refine callWith_K (h₀:=X.base) I.ok.mod.kin M.kp (thn (ha pos pins s σ H _ I h) fun us s1 ⟨vs,H1,I1,r,q⟩=>⟨I1.kIn,?_⟩) he hpl;exact zfY M F hr hb hd hx I1 r q
theorem zit (M:Mk X.K C f) (F:FnOk X.prog X.w X.K X.mg X.base CX k f fd ps sp) (hr:Room (k+1) X.A) (hg:Gl X x) (hm:X.mg x=some (.ref C)) (hb:Binds X.K fd ps ds) (hd:Vals dvs ds) (hx:zcA CX X E)
  (hdb:(x == ("__debug__" : Str))=false:=by decide):PE X (.Call (.Name x p) [] [] pos) (zjC C sp dvs E tNil):=by
 intro pins s σ H Q I h;refine wpAny_Call_Name_kw (zcH I hg hm ?_ hdb);exact callWith_K0 I.kIn M.kp (zfY (us:=[]) M F hr hb hd hx I .nil h)
end
def PK (X:Cx) (kws:List Keyword) (t:TA):Prop :=
 ∀ (pos:Pos) (pins:List (Addr×Obj)) (s:Shared) (σ:St) (H:Hp) (Q:List V→Hp→Prop),Inv X pins σ H s→t σ H Q→wpAny (model X.prog X.w) X.A (evalAll ((backToKw pos (keywordEach kws X.env)).map (·.2))) (AP X pins σ Q) X.xe s
section
variable {X:Cx} {CX:CXT} {k:Nat} {f C:Addr} {fd:FuncData} {ps ks:List Str} {sp:Sp} {E:XK} {x m:Str} {p pos apos kpos:Pos} {e o:Expr} {es:List Expr} {kws:List Keyword} {te ta:TE} {t tk:TA} {nm:Option Str}
theorem pk_nil:PK X [] tNil:=fun _ _ _ _ H Q I h=>wpAny_evalAll_nil ⟨[],H,I,.nil,h⟩
theorem zjE (ha:PE X e te) (hr:PK X kws t):PK X (⟨nm,e,kpos⟩::kws) (zfq te t):=by
 intro pos pins s σ H Q I h;show wpAny _ _ (evalAll ((do let v ← eval e X.env;standAt pos;pure v)::(backToKw pos (keywordEach kws X.env)).map (·.2))) _ _ s;refine wpAny_evalAll_cons (wpAny_bind (thn (ha pins s σ H _ I h) fun u s1 ⟨x,H1,I1,r1,q1⟩=>wpAny_bind (wpAny_standAt (wpAny_pure ?_))));exact thn (hr pos pins s1 σ H1 _ I1 q1) fun us s2 ⟨xs,H2,I2,r2,q2⟩=>⟨x::xs,H2,I2,.cons r1 r2,q2⟩
variable {g:List Value→List Value→List Value} {gV:List V→List V→List V}
end
structure zal (N P:List Str) (sc:Scope):Prop where
 kind:sc.kind=.function
 co:sc.isCoroutine=false
 gen:sc.isGenerator=false
 nd:N.Nodup
 pre:N.take P.length=P
 par:∀ x∈P,sc.names.lookup x=some .local∨sc.names.lookup x=some .cell
 nofree:∀ y∈sc.names,y.2≠.free
theorem zeD {kindOf:Str→Option NameKind} {x:Str}:∀ {binds:List (Str×Value)} {m:Str→Option Value},(∀ v,(x,v)∉binds)→bindL kindOf binds m x=m x
 | [],_,_=>rfl
 | (n,v)::r,m,h=>by
  unfold bindL;rw [zeD fun w hw=>h w (mem_cons_of_mem _ hw)];split
  ·have:x≠n:=by rintro rfl;exact h v mem_cons_self
   simp [this]
  ·rfl
theorem zeE {kindOf:Str→Option NameKind} {x:Str}:∀ {binds:List (Str×Value)} {m:Str→Option Value},(∀ v,(x,v)∉binds)→bindC kindOf binds m x=m x
 | [],_,_=>rfl
 | (n,v)::r,m,h=>by
  unfold bindC;rw [zeE fun w hw=>h w (mem_cons_of_mem _ hw)];split
  ·rfl
  ·have:x≠n:=by rintro rfl;exact h v mem_cons_self
   simp [this]
theorem zeF {kindOf:Str→Option NameKind} {x:Str} {v:Value}:∀ {P:List Str} {vs:List Value} {i:Nat} {m:Str→Option Value},P.Nodup→P[i]? = some x→vs[i]? = some v→kindOf x=some .local →
  bindL kindOf (P.zip vs) m x=some v
 | [],_,_,_,_,h,_,_=>by simp at h
 | _::_,[],_,_,_,_,h,_=>by simp at h
 | p::P,w::vs,0,m,nd,h1,h2,hk=>by
   simp at h1 h2;subst h1;subst h2;show bindL kindOf ((p,w)::P.zip vs) m p=_;unfold bindL;rw [zeD fun v hv=>(nodup_cons.mp nd).1 (of_mem_zip hv).1,if_pos hk];simp
 | p::P,w::vs,i+1,m,nd,h1,h2,hk=>by
   show bindL kindOf ((p,w)::P.zip vs) m x=_;unfold bindL;exact zeF (i:=i) (nodup_cons.mp nd).2 (by simpa using h1) (by simpa using h2) hk
theorem zeG {kindOf:Str→Option NameKind} {x:Str} {v:Value}:∀ {P:List Str} {vs:List Value} {i:Nat} {m:Str→Option Value},P.Nodup→P[i]? = some x→vs[i]? = some v→kindOf x≠some .local →
  bindC kindOf (P.zip vs) m x=some v
 | [],_,_,_,_,h,_,_=>by simp at h
 | _::_,[],_,_,_,_,h,_=>by simp at h
 | p::P,w::vs,0,m,nd,h1,h2,hk=>by
   simp at h1 h2;subst h1;subst h2;show bindC kindOf ((p,w)::P.zip vs) m p=_;unfold bindC;rw [zeE fun v hv=>(nodup_cons.mp nd).1 (of_mem_zip hv).1,if_neg hk];simp
 | p::P,w::vs,i+1,m,nd,h1,h2,hk=>by
   show bindC kindOf ((p,w)::P.zip vs) m x=_;unfold bindC;exact zeG (i:=i) (nodup_cons.mp nd).2 (by simpa using h1) (by simpa using h2) hk
def start (N:List Str) (vs:List V):St:=vs.map some++List.replicate (N.length-vs.length) none
def cxOf (CX:CXT) (P:Program) (w:World) (K:PySem.W.Frag) (mg:Str→Option Value) (base:Heap) (N:List Str) (qual:Str) (scope:Scope) (f:Addr) (cd:Value) (A:Around) (outer:List Env) (s:Shared) (H:Hp) (E:XK):Cx where
 prog:=P
 w:=w
 K:=K
 mg:=mg
 base:=base
 A:=A.deeper (envOfC qual scope s.heap.objs.size f cd)
 N:=N
 s₀:=s
 H₀:=H
 env:=envOfC qual scope s.heap.objs.size f cd
 outer:=outer
 stack:=envOfC qual scope s.heap.objs.size f cd::outer
 ex:=[]
 calm:=true
 fn:=fun _=>true
 pn:=[]
 xe:=fun e s'=>wpAny (model P w) (A.deeper (envOfC qual scope s.heap.objs.size f cd)) (leaving (envOfC qual scope s.heap.objs.size f cd) e) (fun _ s''=>CX outer H s E e s'') (fun e' s''=>CX outer H s E e' s'') s'
theorem zfZ {sc:Scope} {n:Nat} {x:Str} (h:sc.names.lookup x=some .cell):∃ c,(cellsFrom n sc.names []).lookup x=some c:=by
 have q:=cellsFrom_some sc.names n [] (.inl h);exact Option.isSome_iff_exists.mp q
theorem zhb {CX:CXT} {P:Program} {w:World} {K:PySem.W.Frag} {mg:Str→Option Value} {base:Heap} {N ps:List Str} {qual:Str} {scope:Scope} {f:Addr} {cd:Value} {A:Around} {outer:List Env} {s s1:Shared} {H:Hp} {E:XK} {us:List Value} {vs:List V}
  (S:zal N ps scope) (hd:A.handled=none) (e0:Env0 P w K mg base A outer s H) (hl:vs.length=ps.length) (r:Vals vs us)
  (x:InCallC s s.heap.objs.size (bindL (envOfC qual scope s.heap.objs.size f cd).kindOf (ps.zip us) fun _=>none) (cellsFrom (s.heap.objs.size+1) scope.names []) (bindC (envOfC qual scope s.heap.objs.size f cd).kindOf (ps.zip us) fun _=>none) s1) :
  Inv (cxOf CX P w K mg base N qual scope f cd A outer s H E) [] (start N vs) H s1:=by
 have hpl:ps.length≤N.length:=by have:=congrArg List.length S.pre;rw [length_take] at this;omega
 obtain ⟨h1,tk,rfl,hk⟩:=x.done;have noA:∀ b:Addr,b∉(cxOf CX P w K mg base N qual scope f cd A outer s H E).ex:=fun b z=>absurd (show b∈([]:List Addr) from z) (by simp);refine ⟨⟨e0.mod,S.kind,rfl,rfl,Nat.le_refl _,fun y z c h1 h2=>?_,fun y hy=>?_,fun y c _ h=>?_,fun _=>hd,Around.frames_deeper e0.frames,.inr ⟨rfl,rfl⟩,fun b z=>absurd z (noA b),e0.bs,e0.bsz,fun b _ _=>noA b,fun b z=>absurd z (noA b),e0.funs,e0.frf⟩,
  rfl,e0.bare,Un.kept hk,⟨_,x.toInCall.ns,fun i y v h1 h2 h3=>?_⟩,fun y c h=>⟨_,x.cell y c h⟩,e0.hok.fresh (Nat.le_refl _),fun y c h=>?_,fun p hp=>absurd (show p∈([]:List (Addr×Obj)) from hp) (by simp),e0.hok.kept hk,?_⟩
 ·exact name_of_addr x.apart (PySem.mem_of_lookup h1) (PySem.mem_of_lookup h2)
 ·have hy:scope.names.lookup y=some .cell∨scope.names.lookup y=some .free:=hy;rcases hy with hy | hy
  ·exact zfZ hy
  ·exact absurd rfl (S.nofree _ (PySem.mem_of_lookup hy))
 ·exact Nat.le_of_lt (x.above y c (PySem.mem_of_lookup h))
 ·have hi:i < vs.length:=by
   unfold start at h2
   by_cases hi:i < vs.length
   ·exact hi
   ·rw [List.getElem?_append_right (by simpa using hi)] at h2;rw [List.getElem?_replicate] at h2;split at h2 <;> cases h2
  have ha:vs[i]? = some v:=by
   unfold start at h2;rw [List.getElem?_append_left (by simpa using hi),getElem?_map] at h2
   cases e:vs[i]? with
   | none=>rw [e] at h2;cases h2
   | some a=>rw [e] at h2;cases h2;rfl
  obtain ⟨u,hu,rv⟩:=r.get ha;have hp:ps[i]? = some y:=by
   rw [← S.pre,List.getElem?_take_of_lt (by omega)];exact h1
  have ndP:ps.Nodup:=by rw [← S.pre];exact S.nd.sublist (List.take_sublist _ _)
  refine ⟨u,rv,?_⟩;rcases S.par y (mem_of_getElem? hp) with k | k
  ·exact .inl ⟨k,zeF ndP hp hu k⟩
  ·obtain ⟨c,e⟩:=zfZ (n:=s.heap.objs.size+1) k;refine .inr ⟨.inl k,c,e,?_⟩;have q:=x.cell y c e;rw [zeG ndP hp hu (by show scope.names.lookup y≠_;rw [k];decide)] at q;exact q
 ·exact e0.hok.fresh (Nat.le_of_lt (x.above y c (PySem.mem_of_lookup h)))
 ·unfold start;show _=N.length;rw [length_append,length_map,length_replicate];omega
theorem zkw {CX:CXT} {P:Program} {w:World} {K:PySem.W.Frag} {mg:Str→Option Value} {base:Heap} {k:Nat} {f:Addr} {name qual:Str} {params:Arguments} {body:List Stmt} {scope:Scope} {dV kV doc pm cdv ct oc:Value} {an od:Option Addr}
  {osl:Array (Option Value)} {N ps:List Str} {sp:Sp} (lk:K.lookup f=some ⟨oc,od,.func (fnOf name qual params body scope dV kV doc pm an cdv ct),osl⟩) (hcd:codeIn K cdv qual=true) (S:zal N ps scope)
  (len:∀ vs H Q E,sp vs H Q E→vs.length=ps.length)
  (hbody:∀ (A:Around) (outer:List Env) (s:Shared) (H:Hp) (vs:List V) (Q:VK) (E:XK),Room k (A.deeper (envOfC qual scope s.heap.objs.size f cdv))→sp vs H Q E →
   ∃ t,PSs (cxOf CX P w K mg base N qual scope f cdv A outer s H E) body t∧t { nx:=fun _ H'=>Q .non H',rt:=Q } (start N vs) H) :
  FnOk P w K mg base CX (k+1) f (fnOf name qual params body scope dV kV doc pm an cdv ct) ps sp:=by
 refine ⟨len,fun A outer s H args us vs Q E hr e0 hb r hsp=>?_⟩;have hl:=len _ _ _ _ hsp;have KX:K.In s.heap:=e0.mod.kin.keeps fun b o e=>(e0.bs b o e).1;have lim:s.heap.NoLimit:=e0.mod.nolimit.keeps fun b o e=>(e0.bs b o e).1;have hkind:∀ y∈ps.zip us,scope.names.lookup y.1=some .local∨(scope.names.lookup y.1=some .cell∧((cellsFrom (s.heap.objs.size+1) scope.names []).lookup y.1).isSome=true):=fun ⟨n,v⟩ hy=>by
  rcases S.par n (of_mem_zip hy).1 with q | q
  ·exact .inl q
  ·exact .inr ⟨q,cellsFrom_some _ _ _ (.inl q)⟩
 refine codeAny_call_function hr.depth (KX _ _ lk) rfl S.co S.gen rfl (PySem.W.codeRec_of KX hcd) (hb _ _ _ _ ?_);refine wpAny_newFunctionEnv_cells S.kind hkind fun env he s1 x=>?_;subst he;refine ⟨lim.keeps x.toInCall.keep,codeAny_func ?_⟩;obtain ⟨t,ht,hq⟩:=hbody A outer s H vs Q E (hr.deeper _) hsp;have I:Inv (cxOf CX P w K mg base N qual scope f cdv A outer s H E) [] (start N vs) H s1:=zhb S hr.hd e0 hl r x;refine wpAny_mono (ht [] s1 (start N vs) H _ I hq) (fun fl s' hs=>?_) fun e s' hs=>hs;have fin:∀ {σ':St} {H':Hp} {v:V} {u:Value},Inv (cxOf CX P w K mg base N qual scope f cdv A outer s H E) [] σ' H' s'→RelV v u→Q v H'→CE outer P w H s Q u s' :=
  fun {σ' H' v u} J rv q=>⟨v,H',J.os,J.bare,J.base,J.hok,rv,q⟩
 cases fl with
 | ret u =>
   obtain ⟨v,σ',H',J,rv,q⟩:=hs;exact fin J rv q
 | next =>
   obtain ⟨σ',H',J,q⟩:=hs;exact fin (v:=V.non) (u:=Value.none) J rfl q
 | brk =>
   obtain ⟨_,_,_,q⟩:=hs;exact False.elim q
 | cont =>
   obtain ⟨_,_,_,q⟩:=hs;exact False.elim q
end L2
namespace L2
open PySem PySem.Spec PyProof.Rows
section
variable {X:Cx} {x:Str} {p pos:Pos} {e:Expr} {es:List Expr} {t:TA} {id T:String} {r:List V→Hp→VK→Prop}
def tCB (r:List V→Hp→VK→Prop) (t:TA):TE:=fun σ H Q=>t σ H fun vs H1=>r vs H1 Q
theorem zaj (hc:zel X (.builtin id) r) (hg:Gl X x) (hm:X.mg x=none) (hv:bootBuiltins x=some (.builtin id)) (ha:PA X (e::es) t) (hn:x≠"__name__":=by decide) (hdb:(x == ("__debug__" : Str))=false:=by decide)
  (he:starEach (e::es) X.env=(false,eval e X.env)::starEach es X.env:=by rfl) (hpl:(backTo pos (starEach es X.env)).any (·.1)=false:=by rfl):PE X (.Call (.Name x p) (e::es) [] pos) (tCB r t):=by
 intro pins s σ H Q I h;refine wpAny_Call_Name_kw (zdv I hg hm hv ?_ hn hdb);exact PyProof.Rows.callWith_builtin1 (thn (ha pos pins s σ H _ I h) fun us s1 ⟨vs,H1,I1,r1,q1⟩=>hc pins s1 σ H1 vs us Q I1 r1 q1) he hpl
end
end L2
namespace HT
open PySem PyProof.Rows
section
open PySem.SeqAt
open PySem.AutoSeq1 (wpAny_loadPart')
open PySem.MeetsSeq PySem.MeetsSeq2 PySem.MeetsSeq3
end
section
variable {prog:Program} {w:World} {A:Around} {E:Value→Shared→Prop} {s:Shared}
def sIx (n d:Nat):Option Int→Nat
 | none=>d
 | some v=>if v < 0 then (v+(n:Int)).toNat else min v.toNat n
theorem sIx_none (n d:Nat):sIx n d none=d:=rfl
theorem sIx_nat (n d k:Nat):sIx n d (some (k:Int))=min k n:=by
 show (if (k:Int) < 0 then ((k:Int)+(n:Int)).toNat else min (k:Int).toNat n)=min k n;rw [if_neg (by omega),Int.toNat_natCast]
end
end HT
namespace L2
open PySem PySem.Spec PyProof.Rows
abbrev TO:=St→Hp→(Option Int→Hp→Prop)→Prop
def PO (X:Cx) (e:Option Expr) (t:TO):Prop :=
 ∀ (pins:List (Addr×Obj)) (s:Shared) (σ:St) (H:Hp) (Q:Option Int→Hp→Prop),Inv X pins σ H s→t σ H Q →
  wpAny (model X.prog X.w) X.A (evalPart e X.env) (fun u s'=>∃ o H',Inv X pins σ H' s'∧IsPart u o∧Q o H') X.xe s
def tNoPart:TO:=fun _ H Q=>Q none H
def zkx (t:TE):TO:=fun σ H Q=>t σ H fun x H1=>∃ i,x=.int i∧Q (some i) H1
section
variable {X:Cx} {e:Expr} {te:TE} {lo hi:Option Expr} {tl th:TO} {pos p2:Pos}
theorem po_none:PO X none tNoPart:=by
 intro pins s σ H Q I h;rw [evalPart_none];exact wpAny_pure ⟨none,H,I,.none,h⟩
theorem zhc (h:PE X e te):PO X (some e) (zkx te):=by
 intro pins s σ H Q I hw;rw [evalPart_some];refine thn (h pins s σ H _ I hw) fun u s1 ⟨x,H1,I1,r1,q1⟩=>?_;obtain ⟨i,rfl,q⟩:=q1;obtain ⟨t,rfl⟩:=r1;exact ⟨some i,H1,I1,.int i t,q⟩
def SlR (X:Cx) (r:V→Option Int→Option Int→Hp→VK→Prop):Prop :=
 ∀ (pins:List (Addr×Obj)) (s:Shared) (σ:St) (H:Hp) (x:V) (v vl vu:Value) (lo hi:Option Int) (sl:Addr) (Q:VK),Inv X pins σ H s→RelV x v→s.heap.IsSliceOf sl vl vu .none→IsPart vl lo→IsPart vu hi→r x lo hi H Q →
  ∃ T id,typeLookup (.type T) "__getitem__"=pure (some (.builtin id))∧s.TypeIs v T∧wpAny (model X.prog X.w) X.A (getItem v (.ref sl)) (EP X pins σ Q) X.xe s
def tSl (r:V→Option Int→Option Int→Hp→VK→Prop) (te:TE) (tl th:TO):TE:=fun σ H Q=>te σ H fun x H1=>tl σ H1 fun l H2=>th σ H2 fun u H3=>r x l u H3 Q
theorem zf0 {r:V→Option Int→Option Int→Hp→VK→Prop} (hr:SlR X r) (he:PE X e te) (hl:PO X lo tl) (hu:PO X hi th):PE X (.Subscript e (.Slice lo hi none p2) pos) (tSl r te tl th):=by
 intro pins s σ H Q I h;refine Subscript_ (thn (he pins s σ H _ I h) fun v s1 ⟨x,H1,I1,r1,q1⟩=>?_);refine wpAny_Slice (thn (hl pins s1 σ H1 _ I1 q1) fun vl s2 ⟨l,H2,I2,pl,q2⟩=>thn (hu pins s2 σ H2 _ I2 q2) fun vu s3 ⟨u,H3,I3,pu,q3⟩=>?_);rw [evalPart_none];refine wpAny_pure ?_;have I4:Inv X pins σ H3 { s3 with heap:=s3.heap.push { cls:=.type "slice",data:=.fields #[vl,vu,.none] } }:=I3.kept (t':=s3.toks) fun b ob q=>Heap.get?_push_of_some _ q;obtain ⟨T,id,hT,ht,hg⟩:=hr pins { s3 with heap:=s3.heap.push { cls:=.type "slice",data:=.fields #[vl,vu,.none] } } σ H3 x v vl vu l u s3.heap.objs.size Q I4 r1 (Heap.IsSliceOf.new ..) pl pu q3;show wpAny (model X.prog X.w) X.A (subscriptTail e (.Slice lo hi none p2) v (.ref s3.heap.objs.size)) (EP X pins σ Q) X.xe { s3 with heap:=s3.heap.push { cls:=.type "slice",data:=.fields #[vl,vu,.none] } };exact tail_any (ops:=[.ref s3.heap.objs.size,v]) ht hT hg (by with_unfolding_all rfl)
def cutV (xs:List V) (lo hi:Option Int):List V:=(xs.drop (HT.sIx xs.length 0 lo)).take (HT.sIx xs.length xs.length hi-HT.sIx xs.length 0 lo)
theorem zfr (xs:List V) (lo hi:Option Int):(cutV xs lo hi).length≤xs.length:=by
 unfold cutV;rw [length_take,length_drop];omega
end
end L2
namespace L2
open PySem PySem.Spec PyProof.Rows
def ixN (n:Nat) (i:Int):Option Nat:=if 0≤i then (if i < n then some i.toNat else none) else if -(n:Int)≤i then some (i+n).toNat else none
def atI {α:Type} (xs:List α) (i:Int):Option α:=(ixN xs.length i).bind fun j=>xs[j]?
theorem zhd {n:Nat} {i:Int} {j:Nat} (h:ixN n i=some j):seqIndex? i n=some j∧j < n∧-(n:Int)≤i∧i < n:=by
 unfold ixN at h
 by_cases h0:0≤i
 ·rw [if_pos h0] at h
  by_cases h1:i < n
  ·rw [if_pos h1] at h;have e:i.toNat=j:=Option.some.inj h;exact ⟨by rw [seqIndex_of h0 h1,e],by omega,by omega,h1⟩
  ·rw [if_neg h1] at h;cases h
 ·rw [if_neg h0] at h
  by_cases h1 : -(n:Int)≤i
  ·rw [if_pos h1] at h;have e:(i+n).toNat=j:=Option.some.inj h;exact ⟨by rw [seqIndex_neg (by omega) h1,e],by omega,h1,by omega⟩
  ·rw [if_neg h1] at h;cases h
theorem zjF {α:Type} {xs:List α} {i:Int} {v:α} (h:atI xs i=some v):∃ j,seqIndex? i xs.length=some j∧xs[j]? = some v∧j < xs.length∧-(xs.length:Int)≤i∧i < xs.length:=by
 unfold atI at h
 cases e:ixN xs.length i with
 | none=>rw [e] at h;cases h
 | some j =>
   rw [e] at h;obtain ⟨h1,h2,h3,h4⟩:=zhd e;exact ⟨j,h1,h,h2,h3,h4⟩
theorem zhe {α:Type} {xs:List α} {j:Nat} {v:α} (h:xs[j]? = some v):atI xs (j:Int)=some v:=by
 have hj:j < xs.length:=(List.getElem?_eq_some_iff.mp h).1;have e:ixN xs.length (j:Int)=some j:=by
  unfold ixN;rw [if_pos (by omega),if_pos (by omega)];simp
 unfold atI;rw [e];exact h
def zjG (b:Expr):Prop:=∀ o i,subscripted b false o i=operate [o,i] (getItem o i)
def IxR (X:Cx) (r:R2):Prop :=
 ∀ (value slice:Expr) (pins:List (Addr×Obj)) (s:Shared) (σ:St) (H:Hp) (x y:V) (v u:Value) (Q:VK),Inv X pins σ H s→RelV x v→RelV y u→r x y H Q →
  subscripted slice false v u=operate [v,u] (getItem v u)→wpAny (model X.prog X.w) X.A (subscriptTail value slice v u) (EP X pins σ Q) X.xe s
def MtR (X:Cx) (id:String) (r:V→List V→Hp→VK→Prop):Prop :=
 ∀ (pins:List (Addr×Obj)) (s:Shared) (σ:St) (H:Hp) (x:V) (xs:List V) (v:Value) (us:List Value) (Q:VK),Inv X pins σ H s→RelV x v→Vals xs us→r x xs H Q →
  wpAny (model X.prog X.w) X.A (call (.builtin id) (v::us)) (EP X pins σ Q) X.xe s
section
variable {X:Cx} {a b:Expr} {ta tb:TE} {pos:Pos}
theorem zaM {r:R2} (hr:IxR X r) (ha:PE X a ta) (hb:PE X b tb) (hs:zjG b):PE X (.Subscript a b pos) (tOp r ta tb):=by
 intro pins s σ H Q I h;exact Subscript_ (binT ha hb I h fun v u s2 x y H2 I2 rx ry q=>hr a b pins s2 σ H2 x y v u Q I2 rx ry q (hs _ _))
def rIxL (K:PySem.W.Frag):R2:=fun x y H Q=>∃ p xs i v,x=.ref p∧y=.int i∧SqL K H p xs∧atI xs i=some v∧Q v H
theorem ix_list:IxR X (rIxL X.K):=by
 intro value slice pins s σ H x y v u Q I rx ry h hs;obtain ⟨p,xs,i,z,rfl,rfl,hq,he,q⟩:=h
 cases rx
 obtain ⟨t,rfl⟩:=ry;obtain ⟨its,r,pl,hz⟩:=I.list hq;obtain ⟨j,h1,h2,h3,h4,h5⟩:=zjF he;obtain ⟨w,ew,rw'⟩:=r.get h2;have hl:=r.length;have hn:=line63;have fin:EP X pins σ Q w s:=⟨z,H,I,rw',q⟩
 by_cases h0:0≤i
 ·have hj:i.toNat=j:=by
   rw [seqIndex_of h0 h5] at h1;exact Option.some.inj h1
  exact item_listR pl.isList h0 (by omega) (by rw [hj];simpa using ew) fin hs
 ·have hj:(i+(its.toArray.size:Int)).toNat=j:=by
   rw [seqIndex_neg (by omega) h4] at h1;rw [size_toArray,← hl];exact Option.some.inj h1
  exact subscriptTail_builtinR (x:=w) pl.isList.typeIs slot_list_getitem.lookup
   (wpAny_getItem_list_neg (Q:=fun r s'=>r=w∧EP X pins σ Q r s') pl.isList (by omega) (by rw [size_toArray] <;> omega) (by omega) (by rw [hj];simpa using ew) ⟨rfl,fin⟩) hs
theorem zgw (its:List Value) (n j:Nat) (u:Value):Obj.mapSeq (·.setIfInBounds j u) { cls:=.type "list",data:=.seq its.toArray n }={ cls:=.type "list",data:=.seq (its.set j u).toArray n }:=by
 simp [Obj.mapSeq]
theorem Inv.lst {pins:List (Addr×Obj)} {σ:St} {H:Hp} {s:Shared} {p:Addr} {xs:List V} (I:Inv X pins σ H s) (h:H p=some (.lst xs)) :
  ∃ (its:List Value) (n:Nat),Vals xs its∧s.heap.get? p=some { cls:=.type "list",data:=.seq its.toArray n }∧xs.length≤sizeLine:=by
 obtain ⟨z,its,n,r,e⟩:=I.hok p _ h;exact ⟨its,n,r,e,z⟩
theorem Inv.lstUpd {pins:List (Addr×Obj)} {σ:St} {H:Hp} {s:Shared} {p:Addr} {xs ys:List V} {its its':List Value} {n n':Nat} {f:Obj→Obj} (I:Inv X pins σ H s) (h:H p=some (.lst xs))
  (ho:s.heap.get? p=some { cls:=.type "list",data:=.seq its.toArray n }) (hf:f { cls:=.type "list",data:=.seq its.toArray n }={ cls:=.type "list",data:=.seq its'.toArray n' }) (r:Vals ys its') (hz:ys.length≤sizeLine) (t:Nat) :
  Inv X pins σ (upd H p (.lst ys)) { s with heap:=s.heap.update p f,toks:=t }:=by
 have e:(s.heap.update p f).get? p=some { cls:=.type "list",data:=.seq its'.toArray n' }:=by
  rw [Heap.get?_update_self f ho (by rw [hf] <;> rfl),hf]
 refine I.write (x:=p) (e:=p) (by rw [h];trivial) (.inl rfl) (fun b u hb q=>(Heap.get?_update_other _ _ (Ne.symm hb)).trans q) ⟨_,e⟩ ?_;exact ⟨hz,its',n',r,e⟩
def rSetL:V→V→V→Hp→(Hp→Prop)→Prop:=fun o i v H Q=>∃ p xs k j,o=.ref p∧i=.int k∧H p=some (.lst xs)∧ixN xs.length k=some j∧Q (upd H p (.lst (xs.set j v)))
theorem set_list:PSet X rSetL:=by
 intro pins s σ H o i v ov iv u Q I ro ri rv h;obtain ⟨p,xs,k,j,rfl,rfl,hp,hj,q⟩:=h
 cases ro
 obtain ⟨t,rfl⟩:=ri;obtain ⟨its,n,r,ho,hz⟩:=I.lst hp;obtain ⟨h1,h2,h3,h4⟩:=zhd hj;have hl:=r.length;have hn:=line63;have I':Inv X pins σ (upd H p (.lst (xs.set j v))) { s with heap:=s.heap.update p (Obj.mapSeq (·.setIfInBounds j u)) } :=
  I.lstUpd hp ho (zgw its n j u) (r.set rv j) (by rw [length_set];exact hz) s.toks
 by_cases h0:0≤k
 ·have hk:k.toNat=j:=by
   rw [seqIndex_of h0 h4] at h1;exact Option.some.inj h1
  exact PySem.W.ki_setAt ho h0 (by omega) (by rw [size_toArray,← hl];exact h4) (by rw [hk];exact ⟨_,I',q⟩)
 ·have hk:(k+(its.toArray.size:Int)).toNat=j:=by
   rw [seqIndex_neg (by omega) h3] at h1;rw [size_toArray,← hl];exact Option.some.inj h1
  exact PySem.W.ki_setBack ho (by omega) (by rw [size_toArray,← hl];exact h3) (by omega) (by rw [hk];exact ⟨_,I',q⟩)
theorem zeH (lo hi:Option Int) (n:Nat):(sliceBounds lo hi none n).1=((HT.sIx n 0 lo:Nat):Int)∧(sliceBounds lo hi none n).2.1=((HT.sIx n n hi:Nat):Int)∧(sliceBounds lo hi none n).2.2=1:=by
 refine ⟨?_,?_,rfl⟩
 ·cases lo with
  | none=>simp [sliceBounds,HT.sIx]
  | some i =>
    simp only [sliceBounds,HT.sIx,Option.getD_none,show (1:Int) > 0 by decide,if_true]
    by_cases h:i < 0
    ·simp only [h,if_true] <;> omega
    ·simp only [h,if_false] <;> omega
 ·cases hi with
  | none=>simp [sliceBounds,HT.sIx]
  | some i =>
    simp only [sliceBounds,HT.sIx,Option.getD_none,show (1:Int) > 0 by decide,if_true]
    by_cases h:i < 0
    ·simp only [h,if_true] <;> omega
    ·simp only [h,if_false] <;> omega
theorem zen (its:List Value) (lo hi:Option Int):slicePick its.toArray lo hi none=((its.drop (HT.sIx its.length 0 lo)).take (HT.sIx its.length its.length hi-HT.sIx its.length 0 lo)).toArray:=by
 obtain ⟨h1,h2,h3⟩:=zeH lo hi its.toArray.size;unfold slicePick;rw [h1,h2,h3];simp only [sliceRange_one,pick_run,size_toArray] <;> rfl
def rSlL (K:PySem.W.Frag):V→Option Int→Option Int→Hp→VK→Prop:=fun x lo hi H Q=>∃ a xs,x=.ref a∧SqL K H a xs∧∀ p,H p=none→Q (.ref p) (upd H p (.lst (cutV xs lo hi)))
theorem sl_list:SlR X (rSlL X.K):=by
 intro pins s σ H x v vl vu lo hi sl Q I rx hs pl pu h;obtain ⟨a,xs,rfl,hx,q⟩:=h
 cases rx
 obtain ⟨its,r,ht,hz⟩:=I.list hx;have hlen:=r.length;refine ⟨"list",_,slot_list_getitem.lookup,ht.isList.typeIs,?_⟩;refine wpAny_getItem_list_slice ht.isList hs pl pu .none (by simp) ?_ (by rw [size_toArray] <;> omega);rw [zen,← hlen];refine ⟨.ref s.heap.objs.size,_,I.laid (t':=s.toks) (o:=.lst (cutV xs lo hi)) (fun b ob q=>Heap.get?_push_of_some _ q) (Nat.le_refl _) ?_,rfl,q _ (I.hok.fresh (Nat.le_refl _))⟩;exact ⟨Nat.le_trans (zfr xs lo hi) hz,_,0,(r.drop (HT.sIx xs.length 0 lo)).take (HT.sIx xs.length xs.length hi-HT.sIx xs.length 0 lo),Heap.get?_push_size _ rfl⟩
def flatV:V→Bool
 | .non=>true
 | .bl _=>true
 | .int _=>true
 | .str _=>true
 | _=>false
def eqV:V→V→Bool
 | .non,.non=>true
 | .bl a,.bl b=>a == b
 | .bl a,.int b=>(if a then 1 else 0) == b
 | .int a,.bl b=>a == (if b then 1 else 0)
 | .int a,.int b=>a == b
 | .str a,.str b=>a == b
 | _,_=>false
theorem zhf {A:Around} {s:Shared} {y x:V} {u v:Value} (ry:RelV y u) (rx:RelV x v) (fy:flatV y=true) (fx:flatV x=true):SeqAt.EqAt A s u v (eqV y x):=by
 cases y with
 | non =>
   cases ry
   cases x with
   | non=>cases rx;exact SeqAt.EqAt.same _
   | bl b=>cases rx;exact SeqAt.EqAt.none_bool b
   | int b=>obtain ⟨t,rfl⟩:=rx;exact SeqAt.EqAt.none_int b t
   | str b=>obtain ⟨t,rfl⟩:=rx;exact SeqAt.EqAt.none_str b t
   | _=>exact absurd (show false=true from fx) Bool.false_ne_true
 | bl a =>
   cases ry
   cases x with
   | non=>cases rx;exact SeqAt.EqAt.bool_none a
   | bl b=>cases rx;exact SeqAt.EqAt.bool_bool a b
   | int b=>obtain ⟨t,rfl⟩:=rx;exact SeqAt.EqAt.bool_int a b t
   | str b=>obtain ⟨t,rfl⟩:=rx;exact SeqAt.EqAt.bool_str a b t
   | _=>exact absurd (show false=true from fx) Bool.false_ne_true
 | int a =>
   obtain ⟨t',rfl⟩:=ry
   cases x with
   | non=>cases rx;exact SeqAt.EqAt.int_none a t'
   | bl b=>cases rx;exact SeqAt.EqAt.int_bool a t' b
   | int b=>obtain ⟨t,rfl⟩:=rx;exact SeqAt.EqAt.int_int a t' b t
   | str b=>obtain ⟨t,rfl⟩:=rx;exact SeqAt.EqAt.int_str a t' b t
   | _=>exact absurd (show false=true from fx) Bool.false_ne_true
 | str a =>
   obtain ⟨t',rfl⟩:=ry
   cases x with
   | non=>cases rx;exact SeqAt.EqAt.str_none a t'
   | bl b=>cases rx;exact SeqAt.EqAt.str_bool a t' b
   | int b=>obtain ⟨t,rfl⟩:=rx;exact SeqAt.EqAt.str_int a t' b t
   | str b=>obtain ⟨t,rfl⟩:=rx;exact SeqAt.EqAt.str_str a t' b t
   | _=>exact absurd (show false=true from fx) Bool.false_ne_true
 | _=>exact absurd (show false=true from fy) Bool.false_ne_true
def eqU (x:V) (u:Value):Bool:=match u with
 | .none=>eqV .non x
 | .bool b=>eqV (.bl b) x
 | .int i _=>eqV (.int i) x
 | .str z _=>eqV (.str z) x
 | _=>false
theorem zjd {x y:V} {u:Value} (r:RelV y u) (f:flatV y=true):eqU x u=eqV y x:=by
 cases y with
 | non=>cases r;rfl
 | bl b=>cases r;rfl
 | int i=>obtain ⟨t,rfl⟩:=r;rfl
 | str z=>obtain ⟨t,rfl⟩:=r;rfl
 | _=>exact absurd (show false=true from f) Bool.false_ne_true
theorem zdA {x:V}:∀ {xs:List V} {us:List Value},Vals xs us→xs.all flatV=true→us.any (eqU x)=xs.any fun y=>eqV y x
 | _,_,.nil,_=>rfl
 | y::xs,u::us,.cons r t,f=>by
   rw [all_cons,Bool.and_eq_true] at f;rw [any_cons,any_cons,zjd r f.1,zdA t f.2]
theorem zcQ {A:Around} {s:Shared} {x:V} {v:Value} (rx:RelV x v) (fx:flatV x=true):∀ {xs:List V} {us:List Value},Vals xs us→xs.all flatV=true→∀ u∈us,SeqAt.EqAt A s u v (eqU x u)
 | _,_,.nil,_=>fun u hu=>by cases hu
 | y::xs,u::us,.cons r t,f=>fun u' hu=>by
   rw [all_cons,Bool.and_eq_true] at f;rcases mem_cons.mp hu with rfl | hu
   ·rw [zjd r f.1];exact zhf r rx f.1 fx
   ·exact zcQ rx fx t f.2 u' hu
def inV (x:V) (xs:List V):Bool:=xs.any fun y=>eqV y x
def rIn (K:PySem.W.Frag) (neg:Bool):R2:=fun x y H Q=>∃ p xs,y=.ref p∧(SqL K H p xs∨SqT K H p xs)∧flatV x=true∧xs.all flatV=true∧Q (.bl (if neg then !inV x xs else inV x xs)) H
theorem op_in_seq:OpR X (compareOp .In) (rIn X.K false):=by
 intro pins s σ H x y v u Q I rx ry h;obtain ⟨p,xs,rfl,hq,fx,fs,q⟩:=h
 cases ry
 rcases hq with hq | hq
 ·obtain ⟨its,r,pl,hz⟩:=I.list hq;refine SeqAt.in_listAt (eqU x) pl.isList (fun w hw=>zcQ rx fx r fs w (by simpa using hw)) ⟨.bl _,H,I,rfl,?_⟩;rw [show its.toArray.any (eqU x)=its.any (eqU x) by simp,zdA r fs];exact q
 ·obtain ⟨its,r,pl,hz⟩:=I.tuple hq;refine SeqAt.in_tupleAt (eqU x) pl (fun w hw=>zcQ rx fx r fs w (by simpa using hw)) ⟨.bl _,H,I,rfl,?_⟩;rw [show its.toArray.any (eqU x)=its.any (eqU x) by simp,zdA r fs];exact q
theorem op_notIn_seq:OpR X (compareOp .NotIn) (rIn X.K true):=by
 intro pins s σ H x y v u Q I rx ry h;obtain ⟨p,xs,rfl,hq,fx,fs,q⟩:=h
 cases ry
 rcases hq with hq | hq
 ·obtain ⟨its,r,pl,hz⟩:=I.list hq;refine SeqAt.notIn_listAt (eqU x) pl.isList (fun w hw=>zcQ rx fx r fs w (by simpa using hw)) ⟨.bl _,H,I,rfl,?_⟩;rw [show its.toArray.any (eqU x)=its.any (eqU x) by simp,zdA r fs];exact q
 ·obtain ⟨its,r,pl,hz⟩:=I.tuple hq;refine SeqAt.notIn_tupleAt (eqU x) pl (fun w hw=>zcQ rx fx r fs w (by simpa using hw)) ⟨.bl _,H,I,rfl,?_⟩;rw [show its.toArray.any (eqU x)=its.any (eqU x) by simp,zdA r fs];exact q
theorem call_len_seq:zel X (.builtin "len") (fun xs H Q=>∃ p ys,xs=[.ref p]∧(SqL X.K H p ys∨SqT X.K H p ys)∧Q (.int ys.length) H):=by
 intro pins s σ H xs us Q I r h;obtain ⟨p,ys,rfl,hq,q⟩:=h;obtain ⟨u,rfl,rx⟩:=vals1 r
 cases rx
 have hn:=line63;rcases hq with hq | hq
 ·obtain ⟨its,r',pl,hz⟩:=I.list hq;have hlen:=r'.length;exact Calls.call_len_list pl.isList (by simp only [size_toArray] <;> omega) ⟨.int ys.length,H,I.tok _,⟨s.toks+1,by rw [size_toArray,hlen]⟩,q⟩
 ·obtain ⟨its,r',pl,hz⟩:=I.tuple hq;have hlen:=r'.length;exact len_tuple pl (by simp only [size_toArray] <;> omega) ⟨.int ys.length,H,I.tok _,⟨s.toks+1,by rw [size_toArray,hlen]⟩,q⟩
def tyV (K:PySem.W.Frag) (T:String) (x:V) (H:Hp):Prop:=match x with
 | .str _=>T = "str"
 | .int _=>T = "int"
 | .ref p=>(T = "list"∧∃ xs,SqL K H p xs)∨(T = "tuple"∧∃ o,K.lookup p=some o∧o.cls=.type "tuple"∧o.dict=none) ∨
    (T = "dict"∧((∃ kvs,H p=some (.dK kvs))∨∃ kvs,H p=some (.dT kvs)))∨(T = "set"∧∃ S n,H p=some (.set S n))
 | _=>False
theorem zky {pins:List (Addr×Obj)} {σ:St} {H:Hp} {s:Shared} {T:String} {x:V} {v:Value} (I:Inv X pins σ H s) (r:RelV x v) (ty:tyV X.K T x H) :
  s.TypeIs v T∧∀ a,v=.ref a→∃ ob,s.heap.get? a=some ob∧ob.dict=none:=by
 cases x with
 | str z =>
   obtain ⟨t,rfl⟩:=r
   cases (show T = "str" from ty)
   exact ⟨typeIs_str s z t,fun _ e=>nomatch e⟩
 | int i =>
   obtain ⟨t,rfl⟩:=r
   cases (show T = "int" from ty)
   exact ⟨typeIs_int s i t,fun _ e=>nomatch e⟩
 | ref p =>
   cases r
   rcases ty with ⟨rfl,xs,hq⟩ | ⟨rfl,o,hk,hc,hd⟩ | ⟨rfl,hk⟩ | ⟨rfl,S,n,hk⟩
   ·obtain ⟨its,_,pl,_⟩:=I.list hq;refine ⟨pl.isList.typeIs,fun a e=>?_⟩
    cases e
    obtain ⟨o,n,e,c,hd,_⟩:=pl;exact ⟨o,e,hd⟩
   ·refine ⟨⟨o,I.kIn p o hk,hc⟩,fun a e=>?_⟩
    cases e
    exact ⟨o,I.kIn _ o hk,hd⟩
   ·have z:∃ o,s.heap.get? p=some o∧o.ExactDict:=by
     rcases hk with ⟨kvs,hk⟩ | ⟨kvs,hk⟩
     ·obtain ⟨_,_,_,_,o,_,_,e,ex,_⟩:=I.hok p _ hk;exact ⟨o,e,ex⟩
     ·obtain ⟨_,_,_,_,o,_,_,e,ex,_⟩:=I.hok p _ hk;exact ⟨o,e,ex⟩
    obtain ⟨o,e,ex⟩:=z;refine ⟨⟨o,e,ex.1⟩,fun a e2=>?_⟩
    cases e2
    exact ⟨o,e,ex.2.1⟩
   ·obtain ⟨o,_,_,_,e,ex,_⟩:=I.hok p _ hk;refine ⟨⟨o,e,ex.1⟩,fun a e2=>?_⟩
    cases e2
    exact ⟨o,e,ex.2.1⟩
 | _=>exact False.elim ty
def tBM (K:PySem.W.Frag) (T:String) (r:V→List V→Hp→VK→Prop) (to:TE) (t:TA):TE:=fun σ H Q=>to σ H fun x H1=>tyV K T x H1∧t σ H1 fun xs H2=>r x xs H2 Q
variable {o e:Expr} {es:List Expr} {to:TE} {t:TA} {name:Str} {apos cpos:Pos} {T id:String} {r:V→List V→Hp→VK→Prop}
theorem zlD (pa:PlainAttrs T) (slot:Slot T name id) (hty:typeOf (.builtin id)=pure (.type "method_descriptor")) (hm:MtR X id r) (ho:PE X o to) (ha:PA X (e::es) t)
  (hbase:attributeBase o name X.env (eval o X.env)=eval o X.env:=by rfl)
  (hfew:((backTo cpos (starEach (e::es) X.env)).all (fun x=>!x.1) && (backToKw cpos (keywordEach [] X.env)).all (fun x=>x.1.isSome)
   && decide ((e::es).length+([]:List Keyword).length+(if ([]:List Keyword).isEmpty then 0 else 1) < 30))=true:=by rfl)
  (hline:(apos.endLine == cpos.line)=true:=by rfl) (hs:starEach (e::es) X.env=(false,eval e X.env)::starEach es X.env:=by rfl) (hplain:(backTo cpos (starEach es X.env)).any (·.1)=false:=by rfl) :
  PE X (.Call (.Attribute o name apos) (e::es) [] cpos) (tBM X.K T r to t):=by
 intro pins s σ H Q I h;refine wpAny_Call_method_late hbase hfew hline rfl (thn (ho pins s σ H _ I h) fun v s1 ⟨x,H1,I1,r1,ty,q1⟩=>?_);obtain ⟨h1,h2⟩:=zky I1 r1 ty;refine ⟨T,id,pa,slot,hty,h1,h2,?_⟩;have hA:=ha cpos pins s1 σ H1 _ I1 q1;rw [hs] at hA ⊢;refine Calls.callWith_builtin (by show (false || (backTo cpos (starEach es X.env)).any (·.1))=false;rw [hplain] <;> rfl) (Calls.evalArgs_plain ?_);exact thn hA fun us s2 ⟨vs,H2,I2,r2,q2⟩=>hm pins s2 σ H2 x vs v us Q I2 r1 r2 q2
end
end L2
namespace L2
open PySem PySem.Spec PyProof.Rows
def MtM (X:Cx) (id:String) (r:V→List V→Hp→VK→Prop):Prop :=
 ∀ (pins:List (Addr×Obj)) (s:Shared) (σ:St) (H:Hp) (x:V) (xs:List V) (v:Value) (us:List Value) (Q:VK),Inv X pins σ H s→RelV x v→Vals xs us→r x xs H Q →
  wpAny (model X.prog X.w) X.A (call (.builtin id) (v::us)) (EP X pins σ Q) X.xe s
theorem Vals.one:∀ {x:V} {us:List Value},Vals [x] us→∃ u,us=[u]∧RelV x u
 | _,_,.cons r .nil=>⟨_,rfl,r⟩
theorem Vals.two:∀ {x y:V} {us:List Value},Vals [x,y] us→∃ u v,us=[u,v]∧RelV x u∧RelV y v
 | _,_,_,.cons r (.cons q .nil)=>⟨_,_,rfl,r,q⟩
section
variable {X:Cx} {pins:List (Addr×Obj)} {σ:St} {H:Hp} {s:Shared} {l b:Addr} {xs ys zs:List V}
theorem Inv.lset {its its':List Value} {n:Nat} {f:Array Value→Array Value} {t':Nat} (I:Inv X pins σ H s) (hH:H l=some (.lst xs))
  (e:s.heap.get? l=some { cls:=.type "list",data:=.seq its.toArray n }) (hf:f its.toArray=its'.toArray) (hv:Vals ys its') (hz:ys.length≤sizeLine) :
  Inv X pins σ (upd H l (.lst ys)) { s with heap:=s.heap.update l (Obj.mapSeq f),toks:=t' }:=by
 have q:=PySem.IsL.update e f;rw [hf] at q;refine I.write (x:=l) (e:=l) (by rw [hH];exact trivial) (.inl rfl) (fun b' u hb hu=>(Heap.get?_update_other s.heap (Obj.mapSeq f) (Ne.symm hb)).trans hu) ⟨_,q⟩ ?_;exact ⟨hz,its',_,hv,q⟩
theorem Inv.lnew {its:List Value} {t':Nat} (I:Inv X pins σ H s) (hv:Vals ys its) (hz:ys.length≤sizeLine) :
  Inv X pins σ (upd H s.heap.objs.size (.lst ys)) { s with heap:=s.heap.push { cls:=.type "list",data:=.seq its.toArray },toks:=t' } :=
 I.laid (fun _ _ q=>Heap.get?_push_of_some _ q) (Nat.le_refl _) ⟨hz,its,0,hv,Heap.get?_push_size _ rfl⟩
theorem Inv.fresh (I:Inv X pins σ H s):H s.heap.objs.size=none:=I.hok.fresh (Nat.le_refl _)
theorem Inv.lstM (I:Inv X pins σ H s) (hH:H l=some (.lst xs)):xs.length≤sizeLine∧∃ (its:List Value) (n:Nat),Vals xs its∧xs.length=its.length∧s.heap.get? l=some { cls:=.type "list",data:=.seq its.toArray n }:=by
 obtain ⟨z,its,n,r,e⟩:=I.hok l _ hH;exact ⟨z,its,n,r,r.length,e⟩
theorem zf1 {n:Nat} (h:n≤sizeLine):Builtin.List.listTooLong n=false:=by
 unfold Builtin.List.listTooLong;exact decide_eq_false (by omega)
end
section
variable {X:Cx}
def rAppend:V→List V→Hp→VK→Prop:=fun x vs H Q=>∃ l xs y,x=.ref l∧vs=[y]∧H l=some (.lst xs)∧xs.length < sizeLine∧Q .non (upd H l (.lst (xs++[y])))
theorem mt_append:MtM X "list.append" rAppend:=by
 intro pins s σ H x vs v us Q I rx rv h;obtain ⟨l,xs,y,rfl,rfl,hH,hz,q⟩:=h
 cases rx
 obtain ⟨u,rfl,ru⟩:=rv.one;obtain ⟨z,its,n,r,hl,e⟩:=I.lstM hH;refine call_meets F.slot_list_append ⟨_,e,rfl⟩ F.entry_list_append (F.args_list_append_2 _ _) (PySem.list_append l its.toArray n u (by rw [size_toArray];omega)) ⟨e,?_⟩;refine ⟨.non,_,I.lset (its':=its++[u]) hH e (by simp) (r.append (.cons ru .nil)) ?_,rfl,q⟩;rw [length_append,length_singleton];omega
def rCat:R2:=fun x y H Q=>∃ l b xs zs,x=.ref l∧y=.ref b∧H l=some (.lst xs)∧H b=some (.lst zs)∧xs.length+zs.length≤sizeLine∧∀ p,H p=none→Q (.ref p) (upd H p (.lst (xs++zs)))
theorem op_cat:OpR X (binaryOp .Add) rCat:=by
 intro pins s σ H x y v u Q I rx ry h;obtain ⟨l,b,xs,zs,rfl,rfl,hH,hB,hz,q⟩:=h
 cases rx
 cases ry
 obtain ⟨z,its,n,r,hl,e⟩:=I.lstM hH;obtain ⟨z2,its2,n2,r2,hl2,e2⟩:=I.lstM hB;refine PySem.P.add_list e e2 ?_ (by rw [size_toArray,size_toArray];omega);have ea:its.toArray++its2.toArray=(its++its2).toArray:=by simp
 rw [ea];exact ⟨.ref _,_,I.lnew (t':=s.toks) (r.append r2) (by rw [length_append];omega),rfl,q _ I.fresh⟩
end
section
variable {prog:Program} {w:World} {A:Around} {E:Value→Shared→Prop} {s:Shared}
theorem zgx {a c n:Nat} (hac:a≤c) (hc:c≤n):sliceBounds (some (a:Int)) (some (c:Int)) none n=((a:Int),(c:Int),1):=by
 simp only [sliceBounds,Option.getD_none];have h1:¬((a:Int) < 0):=by omega
 have h2:¬((c:Int) < 0):=by omega
 simp only [h1,h2,if_false,show (1:Int) > 0 by decide,if_true]
 congr 1
 ·omega
 ·congr 1;omega
set_option maxRecDepth 100000 in
theorem ziu {l b sl:Addr} {items new:Array Value} {n n2:Nat} {vl vu:Value} {a c:Nat} {Q:Unit→Shared→Prop}
  (e:s.heap.get? l=some { cls:=.type "list",data:=.seq items n }) (e2:s.heap.get? b=some { cls:=.type "list",data:=.seq new n2 }) (hne:l≠b)
  (hs:s.heap.IsSliceOf sl vl vu .none) (pl:IsPart vl (some (a:Int))) (pu:IsPart vu (some (c:Int))) (hac:a≤c) (hc:c≤items.size)
  (hsz:items.size+new.size≤sizeLine) (h:Q () { s with heap:=s.heap.update l (Obj.mapSeq fun xs=>xs.extract 0 a++new++xs.extract c xs.size) }) :
  wpAny (model prog w) A (setItem (.ref l) (.ref sl) (.ref b)) Q E s:=by
 have hl:s.heap.IsList l items:=PySem.IsL.isList e;have hb:s.heap.IsList b new:=PySem.IsL.isList e2;obtain ⟨os,hos,hcs,hds⟩:=id hs;have hTs:s.TypeIs (.ref sl) "slice":=⟨os,hos,hcs⟩
 have hstep:¬((rawPart none == rawInt 0)=true):=Bool.false_ne_true;have hsame:Builtin.List.listSameRef (.ref l) (.ref b)=false:=by
  unfold Builtin.List.listSameRef;exact beq_eq_false_iff_ne.mpr hne
 have hmax:(max (a:Int) (c:Int)).toNat=c:=by omega
 have hz':((fun xs:Array Value=>xs.extract 0 a++new++xs.extract c xs.size) items).size≤sizeLine+1:=by
  simp only [Array.size_append,Array.size_extract];omega
 unfold setItem
 try with_reducible refine wpAny_holding ?_
 first | refine wpAny_bind (wpAny_pure ?_) | skip
 refine wpAny_bind (wpAny_sequenceKey hl.typeIs (by decide) ?_);refine wpAny_bind (wpAny_callSpecial?_slot (name:=Str.ofString "__setitem__") hl.typeIs slot_list_setitem
  (wpAny_call_entry slot_list_setitem hl.typeIs entry_list_setitem ?_ (args_list_setitem _ _ _)))
 show wpAny _ _ (Builtin.List.listSubscript? (.ref sl) >>= _) _ _ s;refine wpAny_bind ?_;unfold Builtin.List.listSubscript?;refine wpAny_bind (wpAny_specialOf hTs slice_no_index ?_);simp only [Option.isNone_none,if_true];refine wpAny_pure ?_;show wpAny _ _ (typeOf (.ref sl) >>= _) _ _ s;refine wpAny_bind (wpAny_typeOf hTs ?_)
 first
  | rw [if_neg (by decide)]
  | refine PySem.W.KFB.if_not (by decide) ?_
 rw [listSliceParts_eq];refine wpAny_bind (wpAny_bind (wpAny_field hos hds (x:=.none) rfl (wpAny_bind (wpAny_listPart .none ?_))));rw [if_neg hstep];refine wpAny_bind (wpAny_field hos hds (x:=vl) rfl (wpAny_bind (wpAny_listPart pl ?_)));refine wpAny_bind (wpAny_field hos hds (x:=vu) rfl (wpAny_bind (wpAny_listPart pu (wpAny_pure ?_))))
 first
  | simp only [hsame,Bool.false_eq_true,if_false]
  | refine PySem.W.KFB.if_not hsame ?_
  | (dsimp only
     rw [if_neg (by rw [hsame];exact Bool.false_ne_true)])
 refine wpAny_bind (m:=Builtin.List.listAllItems (.ref b) "must assign iterable to extended slice") ?_;unfold Builtin.List.listAllItems;refine wpAny_bind (wpAny_typeOf hb.typeIs ?_)
 first
  | refine PySem.W.KFB.if_so (by decide) ?_
  | rw [if_pos (by decide)]
  | simp only [beq_self_eq_true,Bool.true_or,if_true]
 unfold Builtin.List.listItems;refine wpAny_bind (wpAny_seqItems e2 rfl (wpAny_pure ?_));refine wpAny_bind (wpAny_bind (wpAny_seqItems e rfl (wpAny_pure ?_)));refine wpAny_bind (wpAny_of_eq ((sliceIndices_raw (some (a:Int)) (some (c:Int)) none items.size (by simp)).trans (congrArg (pure:Int×Int×Int→Sem (Int×Int×Int)) (zgx hac hc))) ?_);show wpAny _ _ (if ((1:Int) == 1)=true then _ else _) _ _ s;rw [if_pos (by decide)];refine wpAny_bind (wpAny_rule ?_)
 first
  | simp only [zf1 hsz,Bool.false_eq_true,if_false]
  | refine PySem.W.KFB.if_not (zf1 hsz) ?_
 first | refine wpAny_bind (wpAny_pure ?_) | skip
 show wpAny _ _ (updateSeq l (fun xs=>xs.extract 0 ((a:Int)).toNat++new++xs.extract (max (a:Int) (c:Int)).toNat xs.size) >>= _) _ _ s;rw [hmax,Int.toNat_natCast];refine wpAny_bind (wpAny_updateSeq (hz:=Nat.le_trans (le_add_right _ _) hsz) (_hz':=hz') e rfl ?_);refine wpAny_bind (wpAny_letGo ?_)
 first
  | exact wpAny_bind (wpAny_pure (wpAny_pure ⟨.none,rfl,wpAny_pure h⟩))
  | exact wpAny_pure ⟨.none,rfl,wpAny_pure h⟩
end
section
variable {X:Cx}
end
end L2
namespace Att
open PySem PySem.W PySem.Calls PyProof.Rows
theorem zdB {P:Params} {h:Heap}:∀ (ns:List Int) (vs:List Value),WellAll P h vs (ns.map WData.int)→IntsAre vs ns:=by
 intro ns
 induction ns with
 | nil =>
   intro vs w;rw [map_nil] at w
   cases w
   exact .nil
 | cons n ns ih =>
   intro vs w;rw [map_cons] at w
   cases w with
   | cons a b =>
     cases a
     exact .cons _ _ (ih _ b)
theorem zhg {l:OpenLaw} {n:Nat} (hn:l.most=some n) {P:Params} {h:Heap} {args:List WData} {vals:List Value}
  (hpre:l.row.toRowW.claim.pre args=true) (hwl:WellAll P h vals args) :
  ∃ a vs ns,vals=[Value.ref a]∧args=[WData.list (ns.map WData.int)]∧h.get? a=some { cls:=.type "list",data:=.seq vs.toArray }∧IntsAre vs ns∧ns.length≤n:=by
 have hsh:WShape.hasAll [] args [.list .int]=true:=(pre_splitW hpre).1;have hc:l.pre.holds [] { args:=args }=true:=(pre_splitW hpre).2;obtain ⟨d,r,rfl,h1,h2⟩:=hasAllW_cons hsh;obtain rfl:=hasAllW_nil h2;obtain ⟨xs,rfl,h3⟩:=hasW_list h1;obtain ⟨ns,rfl⟩:=items_int h3;have hlen:ns.length≤n:=by
  unfold OpenLaw.pre at hc;have h4:(WTm.not (.lt (.lit (.int (n:Int))) (.len (.arg 0)))).holds [] { args:=[.list (ns.map .int)] }=true:=by
   have h4:=(holds_andW hc).1;rw [hn] at h4;exact h4
  have h5:=condW_of h4 (w_not (w_lt w_lit (w_len_list (w_arg rfl))));rw [length_map] at h5;refine Nat.le_of_not_lt fun q=>?_;have q':(n:Int) < ((ns.length:Nat):Int):=by omega
  first
   | (rw [decide_eq_true q'] at h5;exact absurd h5 (by decide))
   | (simp at h5;omega)
 cases hwl with
 | cons w1 w2 =>
   cases w2
   cases w1 with
   | list ho hall=>exact ⟨_,_,ns,rfl,rfl,ho,zdB ns _ hall,hlen⟩
theorem zhh (l:OpenLaw) (args:List WData):l.row.toRowW.claim.post args (.bool true) args=true :=
 postW_of (r:=l.row.toRowW) (X:=(true == true))
  (show WShape.has [] (.bool true) .bool=true by first | rfl | decide | simp [WShape.has,WShape.arms,WShape.armsAll])
  (show (WTm.eq .res (.lit (.bool true))).value [] { args:=args,res:=some (.bool true),after:=args }=some (.bool (true == true)) from w_eq_bool (w_res rfl) w_lit) rfl
theorem attach_call {l:OpenLaw} {n:Nat} {q:Program} {loose:List Str} {XP:(Str→Option Value)→Heap→Prop} {YP:World→Heap→Prop} {d:DefRec}
  (hn:l.most=some n) (hdf:d.params.defaults=[])
  (call:∀ (w:World) (s₀ s₁:Shared) (mg mb:Str→Option Value) (fa:Addr) (o:Obj) (pm cd doc:Value) (a:Addr) (vs:List Value) (ns:List Int),
   Ground q loose [] XP w s₀ mg mb s₁.heap→YP w s₁.heap →
   s₁.heap.get? fa=some o→o.data=.func (docDef d.name d.params d.body d.scope pm cd doc)→s₁.heap.CodeRec cd d.name→mg d.name=some (.ref fa) →
   s₁.heap.get? a=some { cls:=.type "list",data:=.seq vs.toArray }→IntsAre vs ns→ns.length≤n→s₁.gens=#[] →
   codeAny (model l.prog w) callerA (.call (.ref fa) ⟨[.ref a],[]⟩) (fun r s'=>r=.ok (.ret (.bool true))∧OldK s₁.heap s'.heap∧s'.os=s₁.os∧AllBare s'.gens) s₁) :
  WalkO q loose XP YP l.row.toRowW d [] (fun f vs=>PySem.call f vs):=by
 intro w s₀ s₁ mg mb G Y fa o pm cd doc dV kV ho hd hcd hD hmg hg args vals as hpre hlay hrd hwl hlo;obtain rfl:dV=.none:=Dflts.none hD hdf;obtain rfl:kV=.none:=Dflts.noKw hD;obtain ⟨a,vs,ns,rfl,rfl,hobj,hints,hlen⟩:=zhg hn hpre hwl;refine enter_call (codeAny_mono (call w s₀ s₁ mg mb fa o pm cd doc a vs ns G Y ho (fd_plain hd) hcd hmg hobj hints hlen hg) fun r s' hq=>?_);obtain ⟨rfl,h2,h3,h4⟩:=hq;exact ⟨.inl ⟨.bool true,.bool true,[],rfl,fun _=>rfl,.bool true,zhh l _,fun _=>⟨List.Pairwise.nil,fun _ hm=>(nomatch hm)⟩⟩,h2,h3,h4⟩
section
variable {prog:Program} {w:World} {A:Around} {E:Value→Shared→Prop} {s:Shared} {K:Frag}
end
end Att
namespace L2
open PySem PySem.Spec PyProof.Rows
theorem vals_ints:∀ {vs:List Value} {ns:List Int},IntsAre vs ns→Vals (ns.map V.int) vs
 | _,_,.nil=>.nil
 | _,_,.cons n t h=>.cons ⟨t,rfl⟩ (vals_ints h)
def Only (H:Hp):Prop:=∀ b,H b=none∨∃ o xs,H b=some (.frz o (.lst xs))
theorem ziv {P:Program} {w:World} {K:PySem.W.Frag} {mg mb:Str→Option Value} {CX:CXT} {k:Nat} {fa a:Addr} {fd:FuncData} {x:Str} {sp:Sp} {s₁:Shared} {vs:List Value} {ns:List Int}
  (KX:K.In s₁.heap) (hns:s₁.heap.Ns mainGlobals mg) (hb:s₁.heap.Ns builtinsNs mb) (hbb:∀ x:Str,x≠"__name__"→mb x=bootBuiltins x) (hlim:s₁.heap.NoLimit) (hg:s₁.gens=#[])
  (ha:s₁.heap.get? a=some { cls:=.type "list",data:=.seq vs.toArray }) (hi:IntsAre vs ns) (hl:ns.length≤sizeLine) (hr:Room k callerA)
  (F:∀ base:Heap,K.In base→base.Ns mainGlobals mg→FnOk P w K mg base CX k fa fd [x] sp) (hbind:∀ (s:Shared) (u:Value),BindsTo s fd ⟨[u],[]⟩ [(x,u)])
  (hsp:∀ H:Hp,Only H→SqL K H a (ns.map V.int)→sp [.ref a] H (fun v _=>v=.bl true) fun _ _ _=>False)
  (hCX:∀ H e s',CX [] H s₁ (fun _ _ _=>False) e s'→False) :
  codeAny (model P w) callerA (.call (.ref fa) ⟨[.ref a],[]⟩) (fun r s'=>r=.ok (.ret (.bool true))∧OldK s₁.heap s'.heap∧s'.os=s₁.os∧AllBare s'.gens) s₁:=by
 have rv:=vals_ints hi;have lenV:=hi.length;have core:∀ H:Hp,Only H→SqL K H a (ns.map V.int)→HOk P w H s₁.heap→(∀ b,H b≠none→b=a)→(H a≠none→K.lookup a=none) →
   codeAny (model P w) callerA (.call (.ref fa) ⟨[.ref a],[]⟩) (fun r s'=>r=.ok (.ret (.bool true))∧OldK s₁.heap s'.heap∧s'.os=s₁.os∧AllBare s'.gens) s₁:=by
  intro H hO hS hok hA hK;have base_of:∀ {b:Addr} {o:Obj},s₁.heap.get? b=some o→H b=none→(hidT s₁.heap H).get? b=some o:=fun e n=>zij e n;have noA:∀ {b:Addr} {o:Obj} {es:Array DictEntry} {ep:Nat},s₁.heap.get? b=some o→o.data=.dict es ep→H b=none:=fun {b o es ep} e d=>by
   cases q:H b with
   | none=>rfl
   | some u =>
     have e':b=a:=hA b (by rw [q];simp);subst e';rw [ha] at e;cases e
     have d':Data.seq vs.toArray _=Data.dict es ep:=d
     cases d'
  have nsK:∀ {b:Addr} {m:Str→Option Value},s₁.heap.Ns b m→(hidT s₁.heap H).Ns b m:=fun {b m} ⟨o,es,ep,e,d,r⟩=>⟨o,es,ep,base_of e (noA e d),d,r⟩
  have hKb:K.In (hidT s₁.heap H):=fun b o e=>base_of (KX b o e) (by
   cases q:H b with
   | none=>rfl
   | some u =>
     have e':b=a:=hA b (by rw [q];simp);subst e';rw [hK (by rw [q];simp)] at e;cases e)
  have hM:Mod K mg (hidT s₁.heap H):=⟨hKb,nsK hns,⟨mb,nsK hb,hbb⟩,let ⟨mc,h1,h2⟩:=hlim;⟨mc,nsK h1,h2⟩⟩
  have e0:Env0 P w K mg (hidT s₁.heap H) callerA [] s₁ H:=⟨rfl,hM,fun b o e=>zjt e,Nat.le_of_eq (zg0 _ _),trivial,fun b hb=>absurd (show b∈([]:List Addr) from hb) (by simp),hok,.of_eq hg⟩
  refine codeAny_mono ((F _ hKb (nsK hns)).run callerA [] s₁ H ⟨[.ref a],[]⟩ [.ref a] [.ref a] _ _ hr e0 (hbind s₁ (.ref a)) (.cons rfl .nil) (hsp H hO hS)) fun r s' h=>?_
  cases r with
  | error e=>exact (hCX H e s' h).elim
  | ok fl =>
    cases fl with
    | next=>exact False.elim h
    | brk=>exact False.elim h
    | cont=>exact False.elim h
    | ret u =>
      obtain ⟨v,H',os,bare,un,hok',r',q⟩:=h;have q':v=.bl true:=q;subst q';obtain rfl:u=Value.bool true:=r';refine ⟨rfl,OldK.of_keep fun b o e=>?_,os,bare⟩
      cases q:H b with
      | none=>exact un.keep b o e q (by intro z;exact absurd (show b∈([]:List Addr) from z) (by simp)) (by simp)
      | some u =>
        rcases hO b with z | ⟨ob,xs,z⟩
        ·rw [q] at z;cases z
        ·have z2:=un.frzs b ob _ z;obtain ⟨e1,_⟩:=hok b _ z;obtain ⟨e2,_⟩:=hok' b _ z2;rw [e] at e1;cases e1
         exact e2
 cases hk:K.lookup a with
 | some o =>
   have e:=KX a o hk;rw [ha] at e
   cases e
   refine core (fun _=>none) (fun _=>.inl rfl) (.inr ⟨_,vs.toArray,_,hk,rfl,rfl,rfl,by rw [size_toArray,lenV];exact hl,by simpa using rv⟩) (fun b u z=>by have z':(none:Option HO)=some u:=z;cases z') (fun b z=>absurd rfl z) fun z=>absurd rfl z
 | none =>
   refine core (fun b=>if b=a then some (.frz { cls:=.type "list",data:=.seq vs.toArray } (.lst (ns.map V.int))) else none) (fun b=>?_) (.inl (.inr ⟨{ cls:=.type "list",data:=.seq vs.toArray },if_pos rfl⟩)) (fun b u z=>?_) (fun b z=>?_) fun _=>hk
   ·by_cases hb:b=a
    ·exact .inr ⟨_,_,if_pos hb⟩
    ·exact .inl (if_neg hb)
   ·by_cases hb:b=a
    ·have z':=(if_pos hb).symm.trans z
     cases z'
     subst hb;exact ⟨ha,by rw [length_map];exact hl,vs,_,rv,ha⟩
    ·have z':=(if_neg hb).symm.trans z
     cases z'
   ·by_cases hb:b=a
    ·exact hb
    ·exact absurd (if_neg hb) z
end L2
namespace L2
open PySem PySem.Spec PyProof.Rows
theorem zjH {l:PySem.W.OpenLaw} {n k:Nat} {q:Program} {loose:List Str} {XP:(Str→Option Value)→Heap→Prop} {YP:World→Heap→Prop} {d:DefRec} {K:Params→PySem.W.Frag} {CX:World→CXT} {sp:World→Sp} {x:Str}
  (hn:l.most=some n) (hn2:n≤sizeLine) (hdf:d.params.defaults=[]) (hr:Room k callerA)
  (hY:∀ (w:World) (h:Heap),YP w h→(K w.params).In h)
  (F:∀ (w:World) (mg:Str→Option Value) (fa:Addr) (h:Heap),(K w.params).In h→h.Ns mainGlobals mg→mg d.name=some (.ref fa) →
   ∃ fd:FuncData,(∀ (s:Shared) (u:Value),BindsTo s fd ⟨[u],[]⟩ [(x,u)]) ∧
    ∀ base:Heap,(K w.params).In base→base.Ns mainGlobals mg→FnOk l.prog w (K w.params) mg base (CX w) k fa fd [x] (sp w))
  (hsp:∀ (w:World) (H:Hp) (a:Addr) (ns:List Int),ns.length≤n→Only H→SqL (K w.params) H a (ns.map V.int)→sp w [.ref a] H (fun v _=>v=.bl true) fun _ _ _=>False)
  (hCX:∀ (w:World) (H:Hp) (s:Shared) (e:Value) (s':Shared),CX w [] H s (fun _ _ _=>False) e s'→False) :
  PySem.W.WalkO q loose XP YP l.row.toRowW d [] (fun f vs=>PySem.call f vs):=by
 refine Att.attach_call hn hdf fun w s₀ s₁ mg mb fa o pm cd doc a vs ns G Y ho hd hcd hmg hobj hints hlen hg=>?_;have KX:=hY w _ Y;obtain ⟨fd,hb,hF⟩:=F w mg fa _ KX G.T.g hmg;exact ziv KX G.T.g G.T.b G.T.builtins G.T.nolimit hg hobj hints (Nat.le_trans hlen hn2) hr hF hb (fun H hO hS=>hsp w H a ns hlen hO hS) fun H e s'=>hCX w H s₁ e s'
end L2
namespace L2
open PySem PySem.Spec PyProof.Rows
def za1 (s:Stmt) (j:Nat):Stmt:=match s with
 | .ClassDef _ _ _ body _ _ _ _ _ _ _=>body.getD j (.Pass ⟨0,0,0,0⟩)
 | _=>.Pass ⟨0,0,0,0⟩
def zam (s:Stmt):Arguments:=match s with
 | .FunctionDef _ a _ _ _ _ _ _ _ _=>a
 | _=>{ posonlyargs:=[],args:=[],vararg:=none,kwonlyargs:=[],kw_defaults:=[],kwarg:=none,defaults:=[] }
def zak (s:Stmt):List Stmt:=match s with
 | .FunctionDef _ _ b _ _ _ _ _ _ _=>b
 | _=>[]
def zac (s:Stmt):Scope:=match s with
 | .FunctionDef _ _ _ _ _ _ sc _ _ _=>sc
 | _=>{ kind:=.function,names:=[],isGenerator:=false,isCoroutine:=false }
abbrev CX0:CXT:=fun _ _ _ _ _ _=>False
abbrev E0:XK:=fun _ _ _=>False
theorem zaN {X:Cx}:zcA CX0 X E0:=fun _ _ _ _ _ _ _ h=>h.elim
structure Fun (K:PySem.W.Frag) (x qual:Str) (st:Stmt) (f:Addr) (fd:FuncData):Prop where
 ex:∃ (oc:Value) (od:Option Addr) (kV doc pm:Value) (an:Option Addr) (cdv ct:Value) (osl:Array (Option Value)),
  fd=fnOf x qual (zam st) (zak st) (zac st) .none kV doc pm an cdv ct∧K.lookup f=some ⟨oc,od,.func fd,osl⟩∧codeIn K cdv qual=true
 kp:keepIn K (.ref f)=true
section
variable {P:Program} {w:World} {K:PySem.W.Frag} {mg:Str→Option Value} {base:Heap}
theorem Fun.ok {x qual:Str} {st:Stmt} {f:Addr} {fd:FuncData} {N ps:List Str} {k:Nat} {sp:Sp} (F:Fun K x qual st f fd) (S:zal N ps (zac st)) (len:∀ vs H Q E,sp vs H Q E→vs.length=ps.length)
  (hbody:∀ (cdv:Value) (A:Around) (outer:List Env) (s:Shared) (H:Hp) (vs:List V) (Q:VK) (E:XK),Room k (A.deeper (envOfC qual (zac st) s.heap.objs.size f cdv))→sp vs H Q E →
   ∃ t,PSs (cxOf CX0 P w K mg base N qual (zac st) f cdv A outer s H E).nox (zak st) t∧t { nx:=fun _ H'=>Q .non H',rt:=Q } (start N vs) H):FnOk P w K mg base CX0 (k+1) f fd ps sp:=by
 obtain ⟨oc,od,kV,doc,pm,an,cdv,ct,osl,rfl,lk,hcd⟩:=F.ex;refine zkw lk hcd S len fun A outer s H vs Q E hr hsp=>?_;obtain ⟨t,h,q⟩:=hbody cdv A outer s H vs Q E hr hsp;exact ⟨t,h.nox,q⟩
theorem Fun.binds {x qual:Str} {st:Stmt} {f:Addr} {fd:FuncData} {ps:List Str} (F:Fun K x qual st f fd)
  (h:∀ (kV doc pm:Value) (an:Option Addr) (cdv ct:Value) (us:List Value),us.length=ps.length→bindArgs (fnOf x qual (zam st) (zak st) (zac st) .none kV doc pm an cdv ct) ⟨us,[]⟩=pure (ps.zip us)):Binds K fd ps []:=by
 obtain ⟨oc,od,kV,doc,pm,an,cdv,ct,osl,rfl,lk,hcd⟩:=F.ex;exact .all (h kV doc pm an cdv ct)
theorem zaB {x qual:Str} {st:Stmt} {f:Addr} {oc:Value} {od an:Option Addr} {osl:Array (Option Value)} {kV doc pm cdv ct:Value} (l:K.lookup f=some ⟨oc,od,.func (fnOf x qual (zam st) (zak st) (zac st) .none kV doc pm an cdv ct),osl⟩)
  (c:codeIn K cdv qual=true) (k:keepIn K (.ref f)=true):Fun K x qual st f (fnOf x qual (zam st) (zak st) (zac st) .none kV doc pm an cdv ct):=⟨⟨oc,od,kV,doc,pm,an,cdv,ct,osl,rfl,l,c⟩,k⟩
end
theorem zdW {A:Around} {k:Nat} (hr:Room k A):A.units+1 < cLine:=Nat.lt_of_le_of_lt (Nat.add_le_add_left (by decide:1≤64) _) hr.units
theorem zaW {n:Nat} (h:n≤1000):n < sizeLine:=Nat.lt_of_le_of_lt h (by decide)
section
variable {X:Cx}
theorem pv (i:Nat) {x:Str} {pos:Pos} (hN:X.N[i]? = some x:=by rfl) (hv:Vis X.env.scope x:=by first | exact Or.inl rfl | exact Or.inr (Or.inl rfl) | exact Or.inr (Or.inr rfl)) (hd:(x == ("__debug__" : Str))=false:=by decide)
  (hcd:(x == ("__classdict__" : Str))=false:=by decide):PE X (.Name x pos) (tVar i):=zkj hN hv hd hcd
end
theorem iteF {A B:Prop} (h:B):if false=true then A else B:=by
 rw [if_neg Bool.false_ne_true];exact h
theorem iteT {A B:Prop} (h:A):if true=true then A else B:=by
 rw [if_pos rfl];exact h
def Same (H H':Hp):Prop:=∀ b o,H b=some o→H' b=some o
theorem Same.refl (H:Hp):Same H H:=fun _ _ h=>h
theorem Same.trans {H H1 H2:Hp} (a:Same H H1) (b:Same H1 H2):Same H H2:=fun c o h=>b c o (a c o h)
theorem Same.free {H H':Hp} (e:Same H H') {l:Addr} (h:H' l=Option.none):H l=Option.none:=by
 cases q:H l with
 | none=>rfl
 | some o =>
   rw [e l o q] at h
   cases h
theorem Same.seq {K:PySem.W.Frag} {H H':Hp} {a:Addr} {xs:List V} (e:Same H H') (h:SqL K H a xs):SqL K H' a xs:=by
 rcases h with (h | ⟨o,h⟩) | h
 ·exact .inl (.inl (e _ _ h))
 ·exact .inl (.inr ⟨o,e _ _ h⟩)
 ·exact .inr h
end L2
namespace L2
open PySem PySem.Spec PyProof.Rows
section
variable {κ:Type} [DecidableEq κ]
def valV (kvs:List (κ×V)) (k:κ):Option V:=(kvs.find? fun kv=>decide (kv.1=k)).map (·.2)
def putK (kvs:List (κ×V)) (k:κ) (v:V):List (κ×V) :=
 if (kvs.any fun kv=>decide (kv.1=k))=true then kvs.map (fun kv=>if kv.1=k then (kv.1,v) else kv) else kvs++[(k,v)]
theorem zbc {p:κ×V} {r:List (κ×V)} {k:κ} (e:p.1=k):valV (p::r) k=some p.2:=by simp [valV,find?_cons,e]
theorem zbd {p:κ×V} {r:List (κ×V)} {k:κ} (e:¬p.1=k):valV (p::r) k=valV r k:=by simp [valV,find?_cons,e]
theorem zcR (k:κ):∀ kvs:List (κ×V),(kvs.any fun kv=>decide (kv.1=k))=(valV kvs k).isSome
 | []=>rfl
 | p::r=>by
   rw [any_cons]
   by_cases e:p.1=k
   ·simp only [zbc e,decide_eq_true e,Bool.true_or,Option.isSome_some]
   ·rw [zbd e,decide_eq_false e,Bool.false_or];exact zcR k r
theorem zf2 (k j:κ) (y:V):∀ kvs:List (κ×V),valV (kvs.map fun kv=>if kv.1=k then (kv.1,y) else kv) j=(valV kvs j).map fun x=>if j=k then y else x
 | []=>rfl
 | p::r=>by
   have ih:=zf2 k j y r;rw [map_cons]
   by_cases h:p.1=k
   ·rw [if_pos h]
    by_cases e:p.1=j
    ·rw [zbc (p:=(p.1,y)) e,zbc e,Option.map_some,if_pos (e.symm.trans h)]
    ·rw [zbd (p:=(p.1,y)) e,zbd e,ih]
   ·rw [if_neg h]
    by_cases e:p.1=j
    ·rw [zbc (p:=p) e,zbc e,Option.map_some,if_neg (fun z=>h (e.trans z))]
    ·rw [zbd (p:=p) e,zbd e,ih]
theorem zeI (k j:κ) (y:V):∀ kvs:List (κ×V),valV kvs k=none→valV (kvs++[(k,y)]) j=if j=k then some y else valV kvs j
 | [],_=>by
   by_cases e:k=j
   ·rw [if_pos e.symm];exact zbc (p:=(k,y)) e
   ·rw [if_neg (fun z=>e z.symm)];exact zbd (p:=(k,y)) e
 | p::r,hn=>by
   rw [List.cons_append];have hk:¬p.1=k:=fun z=>by rw [zbc z] at hn;cases hn
   rw [zbd hk] at hn;have ih:=zeI k j y r hn
   by_cases e:p.1=j
   ·rw [zbc e,zbc e,if_neg (fun z=>hk (e.trans z))]
   ·rw [zbd e,zbd e,ih]
theorem ziw (kvs:List (κ×V)) (k j:κ) (y:V):valV (putK kvs k y) j=if j=k then some y else valV kvs j:=by
 unfold putK
 by_cases a:(kvs.any fun kv=>decide (kv.1=k))=true
 ·rw [if_pos a,zf2];rw [zcR] at a
  by_cases e:j=k
  ·obtain ⟨x,hx⟩:=Option.isSome_iff_exists.mp a;rw [if_pos e,e,hx,Option.map_some,if_pos rfl]
  ·rw [if_neg e]
   cases valV kvs j with
   | none=>rfl
   | some x=>rw [Option.map_some,if_neg e]
 ·rw [if_neg a];refine zeI k j y kvs ?_;rw [zcR] at a
  cases q:valV kvs k with
  | none=>rfl
  | some x=>rw [q] at a;exact (a rfl).elim
theorem zcI (kvs:List (κ×V)) (k:κ) (v:V):(putK kvs k v).length≤kvs.length+1:=by
 unfold putK;split
 ·rw [length_map];omega
 ·rw [length_append,length_cons,length_nil];omega
theorem zix {kvs:List (κ×V)} {k:κ} (v:V) (h:valV kvs k=none):putK kvs k v=kvs++[(k,v)]:=by
 unfold putK;rw [zcR,h];exact if_neg (by decide)
theorem RelO.isSome_eq {o:Option V} {u:Option Value} (r:RelO o u):o.isSome=u.isSome:=by
 cases o with
 | none=>cases u with
   | none=>rfl
   | some _=>exact (show False from r).elim
 | some _=>cases u with
   | none=>exact (show False from r).elim
   | some _=>rfl
theorem KV.val {kvs:List (κ×V)} {vs:List (κ×Value)} (r:KV kvs vs) (k:κ):RelO (valV kvs k) (valueAt vs k):=by
 unfold KV at r
 induction r with
 | nil=>exact True.intro
 | @cons p q ps qs h t ih =>
   obtain ⟨h1,h2⟩:=h
   by_cases e:p.1=k
   ·have e':q.1=k:=h1.symm.trans e;have b:valueAt (q::qs) k=some q.2:=by simp [valueAt,find?_cons,e']
    rw [zbc e,b];exact h2
   ·have e':¬q.1=k:=fun z=>e (h1.trans z);have b:valueAt (q::qs) k=valueAt qs k:=by simp [valueAt,find?_cons,e']
    rw [zbd e,b];exact ih
theorem KV.any {kvs:List (κ×V)} {vs:List (κ×Value)} (r:KV kvs vs) (k:κ):(kvs.any fun kv=>decide (kv.1=k))=vs.any fun kv=>decide (kv.1=k):=by
 unfold KV at r
 induction r with
 | nil=>rfl
 | cons h t ih=>rw [any_cons,any_cons,ih,h.1]
theorem KV.repl {kvs:List (κ×V)} {vs:List (κ×Value)} (r:KV kvs vs) (k:κ) {y:V} {u:Value} (ry:RelV y u) :
  KV (kvs.map fun kv=>if kv.1=k then (kv.1,y) else kv) (vs.map fun kv=>if kv.1=k then (kv.1,u) else kv):=by
 unfold KV at r ⊢
 induction r with
 | nil=>exact .nil
 | @cons p q ps qs h t ih =>
   rw [map_cons,map_cons];refine .cons ?_ ih;obtain ⟨h1,h2⟩:=h
   by_cases e:p.1=k
   ·rw [if_pos e,if_pos (h1.symm.trans e)];exact ⟨h1,ry⟩
   ·rw [if_neg e,if_neg (fun z=>e (h1.trans z))];exact ⟨h1,h2⟩
theorem KV.put {kvs:List (κ×V)} {vs:List (κ×Value)} (r:KV kvs vs) (k:κ) {y:V} {u:Value} (ry:RelV y u):KV (putK kvs k y) (stored vs k u):=by
 unfold putK stored;rw [r.any k]
 by_cases e:(vs.any fun kv=>decide (kv.1=k))=true
 ·rw [if_pos e,if_pos e];exact r.repl k ry
 ·rw [if_neg e,if_neg e];exact Paired.snoc r ⟨rfl,ry⟩
theorem KV.length {kvs:List (κ×V)} {vs:List (κ×Value)} (r:KV kvs vs):kvs.length=vs.length:=Paired.length r
end
theorem zhi {P:Program} {w:World} {k:Key} {u:Value} (r:RelV (kV k) u):(zbo P w).is k u=true:=by
 cases k with
 | inl i=>obtain ⟨t,e⟩:=(show ∃ t,u=Value.int i t from r);subst e;exact zfm P w i t
 | inr x=>obtain ⟨t,e⟩:=(show ∃ t,u=Value.str x t from r);subst e;exact zfn P w x t
theorem zeJ {P:Program} {w:World}:∀ {ks:List Key} {us:List Value},Vals (ks.map kV) us→ItemsAre (zbo P w) ks us
 | [],_,r=>by rw [map_nil] at r;cases r;exact .nil
 | k::ks,_,r=>by
   rw [map_cons] at r
   cases r with
   | cons h t=>exact .cons (zhi h) (zeJ t)
abbrev KT (H:Hp):List (List Key×V)→List (List Key×Addr×Value)→Prop:=Paired fun p q=>p.1=q.1∧H q.2.1=some (.tup (p.1.map kV))∧RelV p.2 q.2.2
theorem KT.val {H:Hp} {kvs:List (List Key×V)} {xs:List (List Key×Addr×Value)} (r:KT H kvs xs) (k:List Key):RelO (valV kvs k) ((atKey xs k).map (·.2)):=by
 induction r with
 | nil=>exact True.intro
 | @cons p q ps qs h t ih =>
   obtain ⟨h1,_,h2⟩:=h
   by_cases e:p.1=k
   ·have e':q.1=k:=h1.symm.trans e;have b:atKey (q::qs) k=some q.2:=by simp [atKey,find?_cons,e']
    rw [zbc e,b];exact h2
   ·have e':¬q.1=k:=fun z=>e (h1.trans z);have b:atKey (q::qs) k=atKey qs k:=by simp [atKey,find?_cons,e']
    rw [zbd e,b];exact ih
theorem KT.repl {H:Hp} {kvs:List (List Key×V)} {xs:List (List Key×Addr×Value)} (r:KT H kvs xs) (k:List Key) {y:V} {u:Value} (ry:RelV y u) :
  KT H (kvs.map fun kv=>if kv.1=k then (kv.1,y) else kv) (xs.map (putAt k u)):=by
 induction r with
 | nil=>exact .nil
 | @cons p q ps qs h t ih =>
   rw [map_cons,map_cons];refine .cons ?_ ih;obtain ⟨h1,h2,h3⟩:=h;unfold putAt
   by_cases e:p.1=k
   ·rw [if_pos e,if_pos (h1.symm.trans e)];exact ⟨h1,h2,ry⟩
   ·rw [if_neg e,if_neg (fun z=>e (h1.trans z))];exact ⟨h1,h2,h3⟩
theorem KT.put {H:Hp} {kvs:List (List Key×V)} {xs:List (List Key×Addr×Value)} (r:KT H kvs xs) (k:List Key) {b:Addr} {y:V} {u:Value} (hb:H b=some (.tup (k.map kV))) (ry:RelV y u) :
  KT H (putK kvs k y) (storedH xs k b u):=by
 have e:(kvs.any fun kv=>decide (kv.1=k))=(atKey xs k).isSome:=by
  rw [zcR,(r.val k).isSome_eq,Option.isSome_map]
 unfold putK storedH;rw [e]
 by_cases q:(atKey xs k).isSome=true
 ·rw [if_pos q,if_pos q];exact r.repl k ry
 ·rw [if_neg q,if_neg q];exact Paired.snoc r ⟨rfl,hb,ry⟩
theorem KT.keeps {H H':Hp} {kvs:List (List Key×V)} {xs:List (List Key×Addr×Value)} (r:KT H kvs xs) (ht:∀ b ys,H b=some (.tup ys)→H' b=some (.tup ys)):KT H' kvs xs :=
 Paired.mapP r fun _ _ z=>⟨z.1,ht _ _ z.2.1,z.2.2⟩
section
variable {P:Program} {w:World} {H:Hp} {h:Heap} {a:Addr}
theorem zkz {u:HO} (ok:HOk P w H h) (e:Rd H a u):zbn P w H h a u:=e.ok ok
theorem zhj {kvs:List (Key×V)} (ok:HOk P w H h) (e:Rd H a (.dK kvs)):kvs.length≤sizeLine∧(a == sysModules)=false∧∃ vs,KV kvs vs∧h.DictOf (zbo P w) a vs :=
 show zbn P w H h a (.dK kvs) from zkz ok e
theorem zlE {kvs:List (Key×V)} (ok:HOk P w H h) (e:H a=some (.dK kvs)):kvs.length≤sizeLine∧(a == sysModules)=false∧∃ vs,KV kvs vs∧h.DictOf (zbo P w) a vs:=zhj ok (.inl e)
theorem zeK {ks:List Key} (ok:HOk P w H h) (e:H a=some (.tup (ks.map kV))):(tupleKind (zbo P w)).is h ks a:=by
 obtain ⟨_,its,r,o,h1,h2,n,h3⟩:=(show zbn P w H h a (.tup (ks.map kV)) from ok a _ e)
 exact ⟨o,its.toArray,n,h1,h2,h3,by simpa using zeJ r⟩
theorem zhk {kvs:List (List Key×V)} (ok:HOk P w H h) (e:Rd H a (.dT kvs)):kvs.length≤sizeLine∧(a == sysModules)=false ∧
  ∃ xs,KT H kvs xs∧h.DictOfH (tupleKind (zbo P w)) a xs:=by
 obtain ⟨z,y,xs,r,o,es,ep,h1,h2,h3,h4,h5⟩:=(show zbn P w H h a (.dT kvs) from zkz ok e)
 refine ⟨z,y,xs,r,o,es,ep,h1,h2,h3,h4,fun x hx=>?_,h5⟩;have all:∀ {l:List (List Key×V)} {m:List (List Key×Addr×Value)},KT H l m→∀ x∈m,(tupleKind (zbo P w)).is h x.1 x.2.1:=by
  intro l m q
  induction q with
  | nil=>intro x hx;exact nomatch hx
  | @cons p q ps qs hq t ih =>
    intro x hx;rcases mem_cons.mp hx with e | hx
    ·subst e;exact zeK ok (by rw [← hq.1];exact hq.2.1)
    ·exact ih x hx
 exact all r x hx
theorem zlF {kvs:List (List Key×V)} (ok:HOk P w H h) (e:H a=some (.dT kvs)):kvs.length≤sizeLine∧(a == sysModules)=false ∧
  ∃ xs,KT H kvs xs∧h.DictOfH (tupleKind (zbo P w)) a xs:=zhk ok (.inl e)
end
def DGet (H:Hp) (a:Addr) (y:V) (r:Option V):Prop :=
 (∃ kvs k,Rd H a (.dK kvs)∧y=kV k∧r=valV kvs k)∨∃ kvs k b,Rd H a (.dT kvs)∧y=.ref b∧H b=some (.tup (k.map kV))∧r=valV kvs k
def DPut (H:Hp) (a:Addr) (y v:V) (H':Hp):Prop :=
 (∃ kvs k,H a=some (.dK kvs)∧y=kV k∧kvs.length < sizeLine∧H'=upd H a (.dK (putK kvs k v))) ∨
 ∃ kvs k b,H a=some (.dT kvs)∧y=.ref b∧H b=some (.tup (k.map kV))∧kvs.length < sizeLine∧H'=upd H a (.dT (putK kvs k v))
theorem DGet.k {H:Hp} {a:Addr} {kvs:List (Key×V)} {k:Key} (e:H a=some (.dK kvs)):DGet H a (kV k) (valV kvs k):=.inl ⟨kvs,k,.inl e,rfl,rfl⟩
theorem DPut.k {H:Hp} {a:Addr} {kvs:List (Key×V)} {k:Key} {v:V} (e:H a=some (.dK kvs)) (hl:kvs.length < sizeLine):DPut H a (kV k) v (upd H a (.dK (putK kvs k v))):=.inl ⟨kvs,k,e,rfl,hl,rfl⟩
section
variable {X:Cx} {pins:List (Addr×Obj)} {σ:St} {H:Hp} {s:Shared} {a:Addr} {y v:V} {u r:Value} {o:Option V} {A:Around} {E:Value→Shared→Prop}
theorem Inv.big (I:Inv X pins σ H s):sysModules < s.heap.objs.size:=by
 have h:mainGlobals < s.heap.objs.size:=(I.mod.glob.keeps I.bk).lt;exact Nat.lt_trans (by decide) h
theorem zhl {Q:Value→Shared→Prop} (hu:A.units+1 < cLine) (I:Inv X pins σ H s) (g:DGet H a y (some v)) (ry:RelV y u) (h:∀ w' s',Inv X pins σ H s'→RelV v w'→Q w' s') :
  wpAny (model X.prog X.w) A (getItem (.ref a) u) Q E s:=by
 rcases g with ⟨kvs,k,e,ey,l⟩ | ⟨kvs,k,b,e,ey,eb,l⟩
 ·subst ey;obtain ⟨z,hd,vs,rel,dd⟩:=zhj I.hok e;obtain ⟨w',hw,rw'⟩:=RelO.some_of (v:=v) (o:=valueAt vs k) (by rw [l];exact rel.val k);exact wpAny_getItem_of (zhi ry) dd.mapOf hw (h w' _ (I.tok _) rw')
 ·subst ey
  cases (show u=Value.ref b from ry)
  obtain ⟨z,hd,xs,rel,dd⟩:=zhk I.hok e;obtain ⟨w',hw,rw'⟩:=RelO.some_of (v:=v) (o:=(atKey xs k).map (·.2)) (by rw [l];exact rel.val k);obtain ⟨p,hp,hp2⟩:=Option.map_eq_some_iff.mp hw;refine wpAny_getItem_heap (tupleKind_room_in1 hu) (zeK I.hok eb) dd hp ?_;rw [hp2];exact h w' _ (I.tok _) rw'
theorem d_in {Q:Value→Shared→Prop} (hu:A.units+1 < cLine) (I:Inv X pins σ H s) (g:DGet H a y o) (ry:RelV y u) (h:∀ s',Inv X pins σ H s'→Q (.bool o.isSome) s') :
  wpAny (model X.prog X.w) A (compareOp .In u (.ref a)) Q E s:=by
 rcases g with ⟨kvs,k,e,ey,l⟩ | ⟨kvs,k,b,e,ey,eb,l⟩
 ·subst ey;obtain ⟨z,hd,vs,rel,dd⟩:=zhj I.hok e;refine wpAny_in_of (zhi ry) hd dd.mapOf ?_;rw [← (rel.val k).isSome_eq,← l];exact h _ (I.tok _)
 ·subst ey
  cases (show u=Value.ref b from ry)
  obtain ⟨z,hd,xs,rel,dd⟩:=zhk I.hok e;refine wpAny_in_heap (tupleKind_room_in1 hu) (zeK I.hok eb) hd dd ?_;have q:=(rel.val k).isSome_eq;rw [Option.isSome_map] at q;rw [← q,← l];exact h _ (I.tok _)
theorem zjI {Q:Value→Shared→Prop} (hu:A.units+1 < cLine) (I:Inv X pins σ H s) (g:DGet H a y o) (ry:RelV y u) (h:∀ s',Inv X pins σ H s'→Q (.bool (!o.isSome)) s') :
  wpAny (model X.prog X.w) A (compareOp .NotIn u (.ref a)) Q E s:=by
 rcases g with ⟨kvs,k,e,ey,l⟩ | ⟨kvs,k,b,e,ey,eb,l⟩
 ·subst ey;obtain ⟨z,hd,vs,rel,dd⟩:=zhj I.hok e;refine wpAny_notIn_of (zhi ry) hd dd.mapOf ?_;rw [← (rel.val k).isSome_eq,← l];exact h _ (I.tok _)
 ·subst ey
  cases (show u=Value.ref b from ry)
  obtain ⟨z,hd,xs,rel,dd⟩:=zhk I.hok e;refine wpAny_notIn_heap (tupleKind_room_in1 hu) (zeK I.hok eb) hd dd ?_;have q:=(rel.val k).isSome_eq;rw [Option.isSome_map] at q;rw [← q,← l];exact h _ (I.tok _)
theorem zhm {h':Heap} {t':Nat} {ob:HO} (I:Inv X pins σ H s) (mu:Mut (H a)) (hs:Heap.SameBut a s.heap h') (he:∃ q,h'.get? a=some q) (new:zbn X.prog X.w (upd H a ob) h' a ob) :
  Inv X pins σ (upd H a ob) { s with heap:=h',toks:=t' } :=
 I.write (x:=a) (e:=a) mu (.inl rfl) (fun b q hb z=>(hs.2 b hb).trans z) he new
theorem zkA {P:Program} {w:World} {H':Hp} {h':Heap} {kvs:List (Key×V)} {vs:List (Key×Value)} (z:kvs.length≤sizeLine) (hd:(a == sysModules)=false) (rel:KV kvs vs) (dd:h'.DictOf (zbo P w) a vs) :
  zbn P w H' h' a (.dK kvs):=⟨z,hd,vs,rel,dd⟩
theorem zhn {H':Hp} {Q:Unit→Shared→Prop} (hu:A.units+1 < cLine) (I:Inv X pins σ H s) (g:DPut H a y v H') (ry:RelV y u) (rv:RelV v r) (h:∀ s',Inv X pins σ H' s'→Q () s') :
  wpAny (model X.prog X.w) A (setItem (.ref a) u r) Q E s:=by
 rcases g with ⟨kvs,k,e,ey,l,eH⟩ | ⟨kvs,k,b,e,ey,eb,l,eH⟩
 ·subst ey eH;obtain ⟨z,hd,vs,rel,dd⟩:=zlE I.hok e;have hz:vs.length≤sizeLine:=by rw [← rel.length];exact z
  have hl:(putK kvs k v).length≤sizeLine:=by have:=zcI kvs k v;omega
  refine wpAny_setItem_pairs (hsz:=hz) (zhi ry) dd fun h' dd' hs=>h _ ?_;have he:∃ q,h'.get? a=some q:=let ⟨q,_,_,hq,_⟩:=dd';⟨q,hq⟩;exact zhm I (by rw [e];exact True.intro) hs he (zkA hl hd (rel.put k rv) dd')
 ·subst ey eH
  cases (show u=Value.ref b from ry)
  obtain ⟨z,hd,xs,rel,dd⟩:=zlF I.hok e;have hz:xs.length≤sizeLine:=by rw [← Paired.length rel];exact z
  have hl:(putK kvs k v).length≤sizeLine:=by have:=zcI kvs k v;omega
  refine wpAny_setItem_heap (hsz:=hz) (tupleKind_room_in1 hu) (zeK I.hok eb) dd fun h' dd' hs=>h _ ?_;obtain ⟨q,es,ep,hq,h2,h3,h4,_,h5⟩:=dd';refine zhm I (by rw [e];exact True.intro) hs ⟨q,hq⟩ ⟨hl,hd,_,(rel.put k eb rv).keeps fun c ys ec=>?_,q,es,ep,hq,h2,h3,h4,h5⟩;rw [zav (zlB ec e (fun z=>nomatch z))];exact ec
end
section
variable {X:Cx} {pins:List (Addr×Obj)} {σ:St} {H:Hp} {s:Shared} {a:Addr} {kvs:List (Key×V)} {k:Key} {u:Value} {A:Around} {E:Value→Shared→Prop}
end
def NoSl (i:Expr):Prop:=∀ ov iv,subscripted i false ov iv=operate [ov,iv] (getItem ov iv)
theorem zjJ {prog:Program} {w:World} {A:Around} {E:Value→Shared→Prop} {s:Shared} {env:Env} {value slice:Expr} {pos:Pos} {T id:String} {Q:Value→Shared→Prop}
  (hl:typeLookup (.type T) "__getitem__"=pure (some (.builtin id))) (hs:NoSl slice)
  (h:wpAny (model prog w) A (eval value env) (fun o s₁=>wpAny (model prog w) A (eval slice env) (fun i s₂=>s₂.TypeIs o T∧wpAny (model prog w) A (getItem o i) Q E s₂) E s₁) E s) :
  wpAny (model prog w) A (eval (.Subscript value slice pos) env) Q E s:=by
 refine Subscript_ (wpAny_mono h (fun o s₁ h₁=>wpAny_mono h₁ (fun i s₂ h₂=>?_) fun _ _ x=>x) fun _ _ x=>x);obtain ⟨hT,h₂⟩:=h₂;unfold subscriptTail;refine wpAny_bind ?_;rw [getitemInPython_of_ne hT.not_modules];refine wpAny_bind (wpAny_specialOf hT hl ?_);have fin:wpAny (model prog w) A (subscripted slice false o i) (fun r s₃=>wpAny (model prog w) A (letTemporaryGo value o r >>= fun _=>pure r) Q E s₃) E s₂:=by
  rw [hs o i];exact wpAny_operating (wpAny_mono h₂ (fun r s₃ h₃=>wpAny_bind (wpAny_letTemporaryGo (wpAny_pure h₃))) fun _ _ x=>x)
 first
  | exact wpAny_pure (wpAny_bind fin)
  | exact wpAny_bind (wpAny_pure (wpAny_bind fin))
  | exact wpAny_bind fin
theorem zfs {X:Cx} {pins:List (Addr×Obj)} {σ:St} {H:Hp} {s:Shared} {a:Addr} {y:V} {o:Option V} (I:Inv X pins σ H s) (g:DGet H a y o):s.TypeIs (.ref a) "dict":=by
 rcases g with ⟨kvs,k,e,_,_⟩ | ⟨kvs,k,b,e,_,_,_⟩
 ·obtain ⟨_,_,vs,_,dd⟩:=zhj I.hok e;exact dd.typeIs
 ·obtain ⟨_,_,xs,_,dd⟩:=zhk I.hok e;exact dd.typeIs
def zkB (td ty:TE):TE:=fun σ H Q=>td σ H fun x H1=>ty σ H1 fun y H2=>∃ a v,x=.ref a∧DGet H2 a y (some v)∧Q v H2
def tDIn (ty td:TE):TE:=fun σ H Q=>ty σ H fun y H1=>td σ H1 fun x H2=>∃ a o,x=.ref a∧DGet H2 a y o∧Q (.bl o.isSome) H2
def zho (ty td:TE):TE:=fun σ H Q=>ty σ H fun y H1=>td σ H1 fun x H2=>∃ a o,x=.ref a∧DGet H2 a y o∧Q (.bl (!o.isSome)) H2
def zkC (td ty tv:TE):TS:=fun D σ H=>tv σ H fun v H1=>td σ H1 fun x H2=>ty σ H2 fun y H3=>∃ a H4,x=.ref a∧DPut H3 a y v H4∧D.nx σ H4
section
variable {X:Cx} {o i e value:Expr} {pos pos' tpos:Pos} {td ty tv:TE}
theorem zjK (hu:X.A.units+1 < cLine) (ho:PE X o td) (hi:PE X i ty) (hs:NoSl i):PE X (.Subscript o i pos) (zkB td ty):=by
 intro pins s σ H Q I h;refine zjJ PySem.F.slot_dict_getitem.lookup hs (thn (ho pins s σ H _ I h) fun u s1 ⟨x,H1,I1,rx,q1⟩=>thn (hi pins s1 σ H1 _ I1 q1) fun iv s2 ⟨y,H2,I2,ry,a,v,ex,g,q2⟩=>?_);subst ex;obtain rfl:u=Value.ref a:=rx;exact ⟨zfs I2 g,zhl hu I2 g ry fun w' s3 I3 rw'=>⟨v,H2,I3,rw',q2⟩⟩
theorem zkD (hu:X.A.units+1 < cLine) (hi:PE X i ty) (ho:PE X o td):PC X .In i o (tDIn ty td):=by
 intro pins s σ H Q I h;refine thn (hi pins s σ H _ I h) fun iv s1 ⟨y,H1,I1,ry,q1⟩=>thn (ho pins s1 σ H1 _ I1 q1) fun u s2 ⟨x,H2,I2,rx,a,ov,ex,g,q2⟩=>?_;subst ex;obtain rfl:u=Value.ref a:=rx;exact d_in hu I2 g ry fun s3 I3=>⟨.bl ov.isSome,H2,I3,rfl,q2⟩
theorem zhp (hu:X.A.units+1 < cLine) (hi:PE X i ty) (ho:PE X o td):PC X .NotIn i o (zho ty td):=by
 intro pins s σ H Q I h;refine thn (hi pins s σ H _ I h) fun iv s1 ⟨y,H1,I1,ry,q1⟩=>thn (ho pins s1 σ H1 _ I1 q1) fun u s2 ⟨x,H2,I2,rx,a,ov,ex,g,q2⟩=>?_;subst ex;obtain rfl:u=Value.ref a:=rx;exact zjI hu I2 g ry fun s3 I3=>⟨.bl (!ov.isSome),H2,I3,rfl,q2⟩
theorem zhq (hu:X.A.units+1 < cLine) (ho:PE X o td) (hi:PE X i ty) (hv:PE X value tv) (hs:swapsWith value (some (.Subscript o i pos')) pos.line X.env=pure false) :
  PS X (.Assign [.Subscript o i pos'] value pos) (zkC td ty tv):=by
 intro pins s σ H D I h;refine wpAny_Assign_Subscript (thn (hv pins s σ H _ I h) fun r s1 ⟨v,H1,I1,rv,q1⟩=>thn (ho pins s1 σ H1 _ I1 q1) fun u s2 ⟨x,H2,I2,rx,q2⟩=>thn (hi pins s2 σ H2 _ I2 q2) fun iv s3 ⟨y,H3,I3,ry,a,H4,ex,g,q3⟩=>?_) hs;subst ex;obtain rfl:u=Value.ref a:=rx;exact zhn hu I3 g ry rv fun s4 I4=>⟨σ,H4,I4,q3⟩
end
theorem ziy {P:Program} {w:World} {H:Hp} (h:Heap) (hb:sysModules < h.objs.size):zbn P w H (h.push { cls:=.type "dict",data:=.dict #[] }) h.objs.size (.dK []) :=
 ⟨zero_le _,beq_eq_false_iff_ne.mpr (Ne.symm (Nat.ne_of_lt hb)),[],.nil,Heap.DictOf.new h⟩
def tDNewK:TE:=fun _ H Q=>∀ p,H p=none→Q (.ref p) (upd H p (.dK []))
section
variable {X:Cx} {pos:Pos}
theorem pe_dnewK:PE X (.Dict [] [] pos) tDNewK:=fun pins s σ H Q I h =>
 wpAny_Dict_empty ⟨.ref s.heap.objs.size,_,I.laid (a:=s.heap.objs.size) (o:=.dK []) (t':=s.toks) (fun _ _ q=>Heap.get?_push_of_some _ q) (Nat.le_refl _) (ziy s.heap I.big),rfl,h _ (I.hok.fresh (Nat.le_refl _))⟩
end
end L2
namespace L2
open PySem PySem.Spec PyProof.Rows
section
variable {prog:Program} {w:World} {A:Around} {R:Result -> Shared -> Prop} {s:Shared}
theorem zeL {elt target iter:Expr} {ifs:List Expr} {scope:Scope} {pos:Pos} {it acc:Value} {env:Env} (I:Nat→Shared→Prop)
  (turn:∀ n s,I n s→wpAny (model prog w) A (pyNext it) (fun r s1=>match r with
   | none=>R (.ok .next) s1
   | some v=>wpAny (model prog w) A (letOwnedTupleGo target it v) (fun _ s1'=>wpAny (model prog w) A (assign target env v) (fun _ s2 =>
      wpAny (model prog w) A (forIn ifs true fun c r=>if r=true then do let ok ← isTrue c env (eval c env);pure (ForInStep.yield ok) else pure (ForInStep.yield r)) (fun ok s3 =>
       if ok=true then wpAny (model prog w) A (eval elt env) (fun x s4 =>
        wpAny (model prog w) A (call (.builtin "list.append") [acc,x]) (fun _ s5=>∃ m,m < n∧I m s5) (fun _ _=>False) s4) (fun _ _=>False) s3
       else ∃ m,m < n∧I m s3) (fun _ _=>False) s2) (fun _ _=>False) s1') (fun _ _=>False) s1) (fun _ _=>False) s)
  (n:Nat) (h:I n s) :
  codeAny (model prog w) A (.compLoop (.ListComp elt [⟨target,iter,ifs,0⟩] scope pos) 0 it acc env) R s:=by
 refine codeAny_loop rfl I (fun n s hI=>?_) n h;show wpAny _ A ((compTurn (.ListComp elt [⟨target,iter,ifs,0⟩] scope pos) 0 it acc env).onRaise (fun x=>do noteFrame x env;theTreesLotGoes x)) _ _ s;refine wpAny_noted ?_;rw [compTurn_list];refine wpAny_bind (wpAny_standAt (wpAny_bind (wpAny_mono (turn n s hI) (fun r s1 h1=>?_) fun _ _ z=>z.elim)))
 cases r with
 | none=>exact wpAny_pure h1
 | some v =>
   refine wpAny_bind (wpAny_mono h1 (fun _ s1' h1'=>?_) fun _ _ z=>z.elim);refine wpAny_bind (wpAny_mono h1' (fun _ s2 h2=>wpAny_bind (wpAny_mono h2 (fun ok s3 h3=>?_) fun _ _ z=>z.elim)) fun _ _ z=>z.elim)
   cases ok with
   | false=>exact wpAny_pure ⟨rfl,h3⟩
   | true =>
     exact wpAny_bind (wpAny_bind (wpAny_mono h3 (fun x s4 h4=>wpAny_bind (wpAny_mono h4 (fun _ s5 h5=>wpAny_pure (wpAny_pure ⟨rfl,h5⟩)) fun _ _ z=>z.elim)) fun _ _ z=>z.elim))
end
def PTs (X:Cx) (ifs:List Expr) (t:TT):Prop :=
 ∀ (pins:List (Addr×Obj)) (s:Shared) (σ:St) (H:Hp) (Q:Bool→Hp→Prop),Inv X pins σ H s→t σ H Q →
  wpAny (model X.prog X.w) X.A (forIn ifs true fun c r=>if r=true then do let ok ← isTrue c X.env (eval c X.env);pure (ForInStep.yield ok) else pure (ForInStep.yield r)) (TP X pins σ Q) X.xe s
def tTT:TT:=fun _ H Q=>Q true H
theorem zb0 {X:Cx}:PTs X [] tTT:=fun pins s σ H Q I h=>wpAny_tests_nil ⟨H,I,h⟩
theorem zft {X:Cx} {c:Expr} {t:TT} (h:PT X c t):PTs X [c] t:=fun pins s σ H Q I q=>wpAny_tests_one (h pins s σ H Q I q)
def Cx.comp (X:Cx) (scope:Scope) (cl:List (Str×Addr)) (C:Addr) (N:List Str) (s:Shared) (H:Hp) (fp:List Addr):Cx where
 prog:=X.prog
 w:=X.w
 K:=X.K
 mg:=X.mg
 base:=X.base
 A:=X.A
 N:=N
 s₀:=s
 H₀:=H
 env:=compEnvC scope cl C X.env
 outer:=X.stack
 stack:=X.stack
 ex:=fp
 fn:=fun _=>false
 calm:=X.calm
 pn:=[]
 xe:=fun _ _=>False
def zbl (names:List (Str×NameKind)) (env:Env) (acc:List (Str×Addr)):List (Str×Addr) :=
 names.foldl (fun cs x=>if x.2 == .free then match env.cells.lookup x.1 with | some c=>(x.1,c)::cs | none=>cs else cs) acc
theorem zcS {scope:Scope} {env:Env} (h:∀ x∈scope.names,x.2=.free→∃ c,env.cells.lookup x.1=some c):closureFor scope env=pure (zbl scope.names env []):=by
 have go:∀ (names:List (Str×NameKind)) (acc:List (Str×Addr)),(∀ x∈names,x.2=.free→∃ c,env.cells.lookup x.1=some c) →
   (forIn (m:=Sem) names acc fun x r=>if (x.2 == NameKind.free)=true then do let y ← cellOf env x.1;pure (ForInStep.yield ((x.1,y)::r)) else pure (ForInStep.yield r))=pure (zbl names env acc):=by
  intro names
  induction names with
  | nil=>intro acc _;rfl
  | cons x r ih =>
    intro acc hx;obtain ⟨n,k⟩:=x;rw [List.forIn_cons];have ihr:=fun acc=>ih acc fun y hy=>hx y (mem_cons_of_mem _ hy)
    by_cases hk:k=.free
    ·subst hk;obtain ⟨c,hc⟩:=hx (n,.free) mem_cons_self rfl;have e:cellOf env n=pure c:=by unfold cellOf;rw [show env.cells.lookup n=some c from hc]
     have e2:zbl ((n,NameKind.free)::r) env acc=zbl r env ((n,c)::acc):=by
      unfold zbl;rw [foldl_cons];simp only [beq_self_eq_true,if_true];rw [show env.cells.lookup n=some c from hc]
     rw [e2,← ihr];simp only [beq_self_eq_true,if_true,e,pure_bind]
    ·have hb:(k == NameKind.free)=false:=by simpa using hk
     have e2:zbl ((n,k)::r) env acc=zbl r env acc:=by
      unfold zbl;rw [foldl_cons];simp only [hb,Bool.false_eq_true,if_false]
     rw [e2,← ihr];simp only [hb,Bool.false_eq_true,if_false,pure_bind]
 unfold closureFor;have:=go scope.names [] h;simp only [pure_bind,bind_pure] at this ⊢;exact this
theorem zd3 {env:Env}:∀ (names:List (Str×NameKind)) (acc:List (Str×Addr)),(∀ x c,acc.lookup x=some c→env.cells.lookup x=some c)→∀ x c,(zbl names env acc).lookup x=some c→env.cells.lookup x=some c:=by
 intro names
 induction names with
 | nil=>intro acc h x c e;exact h x c e
 | cons y r ih =>
   intro acc h x c e;unfold zbl at e;rw [foldl_cons] at e;refine ih _ ?_ x c e;intro z d hz
   by_cases hk:(y.2 == NameKind.free)=true
   ·rw [if_pos hk] at hz
    cases hc:env.cells.lookup y.1 with
    | none=>rw [hc] at hz;exact h z d hz
    | some a =>
      rw [hc] at hz;simp only [lookup_cons] at hz
      by_cases hzy:(z == y.1)=true
      ·rw [hzy] at hz;have:z=y.1:=by simpa using hzy
       rw [this,hc];exact hz
      ·have:(z == y.1)=false:=by simpa using hzy
       rw [this] at hz;exact h z d hz
   ·rw [if_neg hk] at hz;exact h z d hz
theorem zd4 {env:Env}:∀ (names:List (Str×NameKind)) (acc:List (Str×Addr)) (x:Str),((∃ c,acc.lookup x=some c)∨((x,NameKind.free)∈names∧∃ c,env.cells.lookup x=some c))→∃ c,(zbl names env acc).lookup x=some c:=by
 intro names
 induction names with
 | nil=>intro acc x h;rcases h with h | h;exact h;exact absurd h.1 (by simp)
 | cons y r ih =>
   intro acc x h;unfold zbl;rw [foldl_cons];refine ih _ x ?_
   by_cases hk:(y.2 == NameKind.free)=true
   ·rw [if_pos hk]
    cases hc:env.cells.lookup y.1 with
    | none =>
      rcases h with h | ⟨h,h2⟩
      ·exact .inl h
      ·rcases mem_cons.mp h with e | e
       ·subst e;rw [hc] at h2;obtain ⟨_,h2⟩:=h2;cases h2
       ·exact .inr ⟨e,h2⟩
    | some a =>
      simp only [lookup_cons]
      by_cases hzy:(x == y.1)=true
      ·exact .inl ⟨a,by rw [hzy]⟩
      ·have hf:(x == y.1)=false:=by simpa using hzy
       rw [hf];rcases h with h | ⟨h,h2⟩
       ·exact .inl h
       ·rcases mem_cons.mp h with e | e
        ·subst e;simp at hf
        ·exact .inr ⟨e,h2⟩
   ·rw [if_neg hk];rcases h with h | ⟨h,h2⟩
    ·exact .inl h
    ·rcases mem_cons.mp h with e | e
     ·subst e;simp at hk
     ·exact .inr ⟨e,h2⟩
def capS (own:Nat) (js:List Nat) (σ:St):St:=List.replicate own none++js.map fun j=>(σ[j]?).getD none
def zfu (wi:TI) (own:Nat) (js:List Nat) (g:TG) (tc:TT) (te:TE):TE:=fun σ H Q=>wi σ H fun J H1=>∀ p,H1 p=none →
 ∃ W:Nat→Nat→St→Hp→Prop,(∃ m,W 0 m (capS own js σ) (upd H1 p (.lst [])))∧∀ i m σc H,W i m σc H →
  (J.stop i H∧Q (.ref p) H)∨(J.go i H∧∃ N:St→Hp→Prop,(∀ σ' H',N σ' H'→∃ m',m' < m∧W (i+1) m' σ' H')∧∀ x H',J.yld i H x H' →
   g x σc H' fun σ2 H2=>tc σ2 H2 fun b H3=>if b=true then te σ2 H3 fun v H4=>∃ ys,H4 p=some (.lst ys)∧ys.length < sizeLine∧N σ2 (upd H4 p (.lst (ys++[v]))) else N σ2 H3)
structure zck (X:Cx) (scope:Scope) (N:List Str) (own:Nat) (js:List Nat):Prop where
 kind:scope.kind=.function
 nocell:∀ y∈scope.names,y.2≠.cell
 nodup:∀ y∈scope.names,y.2=.local→scope.names.lookup y.1=some .local
 free:∀ y∈scope.names,y.2=.free→X.env.kindOf y.1=some .cell∨X.env.kindOf y.1=some .free
 len:N.length=own+js.length
 cap:∀ (i:Nat) (j:Nat),js[i]? = some j→N[own+i]? = X.N[j]?∧∀ x,X.N[j]? = some x→scope.names.lookup x=some .free∧Vis X.env.scope x∧X.env.kindOf x≠some .local
section
variable {X:Cx} {tg elt iter:Expr} {ifs:List Expr} {scope:Scope} {pos:Pos} {N:List Str} {own:Nat} {js:List Nat} {wi:TI} {g:TG} {tc:TT} {te:TE}
theorem zbR {env:Env} {names:List (Str×NameKind)} {x:Str} {k:NameKind} (hk:k=.cell∨k=.free) (hnc:∀ y∈names,y.2≠.cell)
  (h:(names.map fun (n,k)=>if (k == NameKind.free && env.scope.kind == .function && env.kindOf n == some .cell) then (n,NameKind.cell) else (n,k)).lookup x=some k):(x,NameKind.free)∈names:=by
 have:=PySem.mem_of_lookup h;obtain ⟨⟨n,k'⟩,hm,e⟩:=mem_map.mp this;dsimp only at e;split at e
 ·rename_i hc
  cases e
  have:k'=.free:=by
   simp only [Bool.and_eq_true,beq_iff_eq] at hc;exact hc.1.1
  rw [← this];exact hm
 ·cases e
  rcases hk with rfl | rfl
  ·exact absurd rfl (hnc _ hm)
  ·exact hm
theorem zbA {env:Env}:∀ {names:List (Str×NameKind)} {x:Str},names.lookup x=some .free →
  (names.map fun (n,k)=>if (k == NameKind.free && env.scope.kind == .function && env.kindOf n == some .cell) then (n,NameKind.cell) else (n,k)).lookup x=some .local→False
 | [],_,h,_=>by simp at h
 | (n,k)::r,x,h,h'=>by
  have ih:=@zbA env r x
  cases hx:x == n with
  | true =>
    simp only [lookup_cons,hx] at h
    cases h
    rw [map_cons] at h';dsimp only at h';split at h' <;> simp [lookup_cons,hx] at h'
  | false =>
    simp only [lookup_cons,hx] at h;rw [map_cons] at h';dsimp only at h';split at h' <;> simp only [lookup_cons,hx] at h' <;> exact ih h h'
theorem ziz {pins:List (Addr×Obj)} {σ:St} {H:Hp} {s:Shared} {fp:List Addr} {h1:Heap} (S:zck X scope N own js) (I:Inv X pins σ H s) (hf:∀ b∈fp,FpOk X pins H b) (hfo:∀ b∈fp,b < s.heap.objs.size)
  (C p:Addr) (hp:p=s.heap.objs.size) (hC:C=s.heap.objs.size+1) (hns:h1.Ns C fun _=>none) (hkeep:∀ b o,s.heap.get? b=some o→h1.get? b=some o)
  (hacc:h1.get? p=some { cls:=.type "list",data:=.seq #[] 0 }) (tk:Nat) :
  Inv (X.comp scope (zbl scope.names X.env []) C N s H fp) [] (capS own js σ) (upd H p (.lst [])) { s with heap:=h1,toks:=tk }:=by
 have sub:=zd3 (env:=X.env) scope.names [] (fun x c e=>by simp at e);have hHp:H p=none:=I.hok.fresh (by rw [hp];exact Nat.le_refl _);have hHC:H C=none:=I.hok.fresh (by rw [hC];exact le_succ _);have hpC:C≠p:=by rw [hp,hC];exact Nat.succ_ne_self _
 have cellLt:∀ x c,X.env.cells.lookup x=some c→c < s.heap.objs.size:=fun x c e=>by
  obtain ⟨v,q⟩:=I.cell x c e;exact q.lt
 have nop:∀ q:Addr×Obj,q∉(X.comp scope (zbl scope.names X.env []) C N s H fp).pn++([]:List (Addr×Obj)):=fun q z=>absurd (show q∈([]:List (Addr×Obj)) from z) (by simp);refine ⟨⟨I.ok.mod,S.kind,I.ok.glob,I.ok.blt,by rw [show (X.comp scope (zbl scope.names X.env []) C N s H fp).env.locals=C from rfl,hC];exact le_succ _,?_,?_,fun y c z=>absurd (show false=true from z) (by decide),I.ok.hd,I.ok.frames,.inl rfl,?_,fun b o e=>I.bs b o e,Nat.le_trans I.ok.bsz I.sz,?_,?_,I.stack,I.stkFree⟩,
  rfl,I.bare,Un.laid hkeep (by rw [hp];exact Nat.le_refl _) hHp,⟨_,hns,?_⟩,?_,?_,?_,fun q hq=>absurd hq (nop q),?_,?_⟩
 ·intro x y c e1 e2;exact I.ok.inj x y c (sub x c e1) (sub y c e2)
 ·intro x hx;have hm:(x,NameKind.free)∈scope.names:=by
   rcases hx with hx | hx
   ·exact zbR (.inl rfl) S.nocell hx
   ·exact zbR (.inr rfl) S.nocell hx
  exact zd4 scope.names [] x (.inr ⟨hm,I.ok.has x (S.free _ hm rfl)⟩)
 ·intro b hb;obtain ⟨f0,f1,f2,f3,f4,f5⟩:=hf b hb;refine ⟨fun e=>?_,fun x c e=>f4 x c (sub x c e)⟩;have e':b=C:=e;have:=hfo b hb;rw [e',hC] at this;exact absurd this (Nat.not_lt.mpr (le_succ _))
 ·intro b o e hb;obtain ⟨f0,f1,f2,f3,f4,f5⟩:=hf b hb;rcases f3 with z | z
  ·exact I.ok.noex b o e z
  ·exact absurd (Nat.lt_of_lt_of_le (Heap.lt_size (I.ok.bs b o e).1) z) (Nat.lt_irrefl _)
 ·intro b hb z;obtain ⟨f0,f1,f2,f3,f4,f5⟩:=hf b hb;rcases mem_cons.mp (I.stkSub b z) with e | e
  ·exact f1 e
  ·exact f2 e
 ·intro i x v h1' h2 h3;have hlen:(capS own js σ).length=own+js.length:=by simp [capS]
  have hio:own≤i:=by
   by_cases hi:i < own
   ·unfold capS at h2;rw [List.getElem?_append_left (by simpa using hi),List.getElem?_replicate,if_pos hi] at h2
    cases h2
   ·omega
  obtain ⟨k,rfl⟩:∃ k,i=own+k:=⟨i-own,by omega⟩
  have e1:(js.map fun j=>(σ[j]?).getD none)[k]? = some (some v):=by
   unfold capS at h2;rw [List.getElem?_append_right (by simp)] at h2;simpa using h2
  rw [getElem?_map] at e1
  cases ej:js[k]? with
  | none=>rw [ej] at e1;cases e1
  | some j =>
    rw [ej] at e1;have e2:(σ[j]?).getD none=some v:=Option.some.inj e1;have e3:σ[j]? = some (some v):=by
     cases q:σ[j]? with
     | none=>rw [q] at e2;cases e2
     | some z=>rw [q] at e2;exact congrArg some e2
    obtain ⟨c1,c2⟩:=S.cap k j ej;have hN:X.N[j]? = some x:=by rw [← c1];exact h1'
    obtain ⟨d1,d2,d3⟩:=c2 x hN;obtain ⟨m,_,hl⟩:=I.loc;obtain ⟨u,r,l⟩:=hl j x v hN e3 d2;refine ⟨u,r,?_⟩;rcases l with ⟨l,_⟩ | ⟨_,c,ec,o,ho,hd⟩
    ·exact absurd l d3
    ·obtain ⟨c',hc'⟩:=zd4 (env:=X.env) scope.names [] x (.inr ⟨PySem.mem_of_lookup d1,c,ec⟩);have e4:=sub x c' hc';rw [ec] at e4
     cases e4
     refine .inr ⟨?_,c,hc',o,hkeep c o ho,hd⟩;rcases h3 with z | z | z
     ·exact (zbA d1 z).elim
     ·exact .inl z
     ·exact .inr z
 ·intro x c e;obtain ⟨v,o,ho,hd⟩:=I.cell x c (sub x c e);exact ⟨v,o,hkeep c o ho,hd⟩
 ·rw [show (X.comp scope (zbl scope.names X.env []) C N s H fp).env.locals=C from rfl,zav hpC];exact hHC
 ·intro x c e;rw [zav (by rw [hp];exact Nat.ne_of_lt (cellLt x c (sub x c e)))];exact I.freeC x c (sub x c e)
 ·exact I.hok.laid hkeep (by rw [hp];exact Nat.le_refl _) ⟨zero_le _,[],0,.nil,hacc⟩
 ·show (capS own js σ).length=N.length;rw [S.len];simp [capS]
theorem zd5 {pins:List (Addr×Obj)} {σ:St} {H:Hp} {s:Shared} {E:Value→Shared→Prop} {it:Addr} {fp:List Addr} {tn:Nat→Heap→Prop} {J:It} {Q:VK} {RR:Value→Addr→Result→Shared→Prop}
  (S:zck X scope N own js) (hc:X.calm=true) (I:Inv X pins σ H s) (T:Turn X.prog X.w X.K tg J fp it tn) (st:tn 0 s.heap) (hf:∀ b∈fp,FpOk X pins H b)
  (hg:∀ cl C s H fp,PG (X.comp scope cl C N s H fp) tg g) (hts:∀ cl C s H fp,PTs (X.comp scope cl C N s H fp) ifs tc) (he:∀ cl C s H fp,PE (X.comp scope cl C N s H fp) elt te)
  (hq:∀ p,H p=none→∃ W:Nat→Nat→St→Hp→Prop,(∃ m,W 0 m (capS own js σ) (upd H p (.lst [])))∧∀ i m σc H,W i m σc H →
   (J.stop i H∧Q (.ref p) H)∨(J.go i H∧∃ N:St→Hp→Prop,(∀ σ' H',N σ' H'→∃ m',m' < m∧W (i+1) m' σ' H')∧∀ x H',J.yld i H x H' →
    g x σc H' fun σ2 H2=>tc σ2 H2 fun b H3=>if b=true then te σ2 H3 fun v H4=>∃ ys,H4 p=some (.lst ys)∧ys.length < sizeLine∧N σ2 (upd H4 p (.lst (ys++[v]))) else N σ2 H3))
  (hRR:∀ p C s' H' m,C=s.heap.objs.size+1→s'.heap.Ns C m→Inv X pins σ H' s'→H' C=none→Q (.ref p) H'→RR (.ref p) C (.ok .next) s') :
  wpAny (model X.prog X.w) X.A (newList []) (fun acc s3=>wpAny (model X.prog X.w) X.A (newFunctionEnv scope X.env.globals (zbl scope.names X.env []) [] X.env.qual none .none (some X.env)) (fun cenv s4 =>
   codeAny (model X.prog X.w) X.A (.compStart (.ListComp elt [⟨tg,iter,ifs,0⟩] scope pos) 0 (.ref it) acc { cenv with scope:=relabel scope X.env }) (RR acc cenv.locals) s4) E s3) E s:=by
 refine wpAny_newObj_type (wpAny_newFunctionEnv S.nocell (by intro y hy;simp at hy) (fun h1 hns1 hsb1=>?_) S.kind);dsimp only at hns1 hsb1 ⊢;generalize hH2:s.heap.push { cls:=.type "list",dict:=none,data:=.seq ([]:List Value).toArray }=H2 at hns1 hsb1 ⊢;have hC:H2.objs.size=s.heap.objs.size+1:=by rw [← hH2,Heap.size_push]
 have old:∀ b o,s.heap.get? b=some o→h1.get? b=some o:=fun b o e=>hsb1.extBut b o (by rw [hC];exact Nat.ne_of_lt (lt_succ_of_lt (Heap.lt_size e))) (Heap.get?_push_of_some _ (hH2▸Heap.get?_push_of_some _ e));have hacc:h1.get? s.heap.objs.size=some { cls:=.type "list",data:=.seq #[] 0 }:=hsb1.extBut _ _ (by rw [hC];exact Nat.ne_of_lt (Nat.lt_succ_self _)) (Heap.get?_push_of_some _ (hH2▸Heap.get?_push_size _ rfl));have hfo:∀ b∈fp,b < s.heap.objs.size:=fun b hb=>by
  obtain ⟨o,e,_⟩:=T.obj 0 _ st b hb;exact Heap.lt_size e
 have st1:tn 0 h1:=T.keep _ _ _ st fun b _ o e=>old b o e;have I0:=ziz (fp:=fp) S I hf hfo H2.objs.size s.heap.objs.size rfl hC hns1 old hacc (s.toks+([]:List (Str×Value)).length);have hHp:H s.heap.objs.size=none:=I.hok.fresh (Nat.le_refl _);obtain ⟨W,⟨m0,w0⟩,turn⟩:=hq _ hHp;generalize hX:X.comp scope (zbl scope.names X.env []) H2.objs.size N s H fp=Y at I0;have eY:(Y.prog=X.prog∧Y.w=X.w∧Y.K=X.K∧Y.calm=true∧Y.A=X.A)∧Y.env=compEnvC scope (zbl scope.names X.env []) H2.objs.size X.env∧Y.fs=frs X.stack∧Y.ex=fp∧Y.s₀=s∧Y.H₀=H∧Y.pn=[]:=by
  subst hX;exact ⟨⟨rfl,rfl,rfl,hc,rfl⟩,rfl,rfl,rfl,rfl,rfl,rfl⟩
 have hgY:PG Y tg g:=by subst hX;exact hg _ _ _ _ _
 have htY:PTs Y ifs tc:=by subst hX;exact hts _ _ _ _ _
 have heY:PE Y elt te:=by subst hX;exact he _ _ _ _ _
 have hxe:Y.xe=fun _ _=>False:=by subst hX;rfl
 obtain ⟨⟨e1,e2,e3,e4,e5⟩,e6,e7,e8,e9,e10,e11⟩:=eY;have sub:=zd3 (env:=X.env) scope.names [] (fun x c e=>by simp at e);have stat:∀ {H':Hp},(∀ b∈fp,H' b=none)→∀ b∈fp,FpOk Y [] H' b:=fun {H'} hn b hb=>by
  refine ⟨hn b hb,?_,?_,.inl (by rw [e8];exact hb),?_,?_⟩
  ·rw [e6];show b≠H2.objs.size;rw [hC];exact Nat.ne_of_lt (lt_succ_of_lt (hfo b hb))
  ·rw [e7];intro z;rcases mem_cons.mp (I.stkSub b z) with e | e
   ·exact (hf b hb).2.1 e
   ·exact (hf b hb).2.2.1 e
  ·intro x c e;rw [e6] at e;exact (hf b hb).2.2.2.2.1 x c (sub x c e)
  ·intro q hq;rw [e11] at hq;exact absurd hq (by simp)
 have noT:∀ b∈fp,b≠s.heap.objs.size:=fun b hb=>Nat.ne_of_lt (hfo b hb);have loop:∀ s3:Shared,s3={ s with heap:=h1,toks:=s.toks+([]:List (Str×Value)).length } →
   codeAny (model X.prog X.w) X.A (.compLoop (.ListComp elt [⟨tg,iter,ifs,0⟩] scope pos) 0 (.ref it) (.ref s.heap.objs.size) (compEnvC scope (zbl scope.names X.env []) H2.objs.size X.env))
    (RR (.ref s.heap.objs.size) H2.objs.size) s3:=by
  rintro s3 rfl;rw [← e1,← e2,← e5,← e6];refine zeL (fun n s'=>∃ i σ' H',Inv Y [] σ' H' s'∧tn i s'.heap∧(∀ b∈fp,H' b=none)∧W i n σ' H') ?_ m0 ⟨0,_,_,I0,st1,fun b hb=>by rw [zav (noT b hb)];exact (hf b hb).1,w0⟩;rintro n s3 ⟨i,σ3,H3,I3,st3,fr3,w3⟩;rcases turn i n σ3 H3 w3 with ⟨stop,qn⟩ | ⟨go,N',hN,step⟩
  ·have tt:=T.done Y e1 e2 e3 e4 i [] s3 σ3 H3 (fun _ _=>False) I3 (stat fr3) st3 stop;rw [← e1,← e2] at tt;refine thn tt fun r s4 ⟨hr,I4⟩=>?_;subst hr;obtain ⟨m,hn4,_⟩:=I4.loc;have hl:Y.env.locals=H2.objs.size:=by rw [e6];rfl
   have u:=I4.base;rw [e7,e8,e9,e10] at u;refine hRR _ _ s4 H3 m hC (by rw [← hl];exact hn4) ?_ (by rw [← hl];exact I4.free) qn;refine I.call' (by rw [I4.os,e9]) u (by rw [← e1,← e2];exact I4.hok) I4.bare fun b hb=>?_;obtain ⟨f0,f1,f2,f3,f4,f5⟩:=hf b hb;exact ⟨f3,f1,f4,f5⟩
  ·have tt:=T.item Y e1 e2 e3 e4 i [] s3 σ3 H3 (fun _ _=>False) I3 (stat fr3) st3 go;rw [← e1,← e2] at tt;refine thn tt fun r s4 ⟨u,hr,h4⟩=>?_;subst hr;refine thn h4 fun _ s5 ⟨x,H5,I5,r5,y5,st5,fr5⟩=>?_;have I5':=I5.pinned (stat fr5) (T.obj _ _ st5);have a6:=hgY _ s5 σ3 H5 x u _ I5' r5 (step x H5 y5);rw [hxe] at a6;refine thn a6 fun _ s6 ⟨σ6,H6,I6,q6⟩=>?_;have a7:=htY _ s6 σ6 H6 _ I6 q6;rw [hxe] at a7;refine thn a7 fun ok s7 ⟨H7,I7,q7⟩=>?_;have again:∀ {H8:Hp} {s8:Shared},Inv Y ([]++zeC fp s5.heap) σ6 H8 s8→N' σ6 H8→∃ m,m < n∧∃ i σ' H',Inv Y [] σ' H' s8∧tn i s8.heap∧(∀ b∈fp,H' b=none)∧W i m σ' H':=fun {H8 s8} I8 n8=>by
    obtain ⟨m',hm,w8⟩:=hN σ6 H8 n8;refine ⟨m',hm,i+1,σ6,H8,I8.unpinned,T.keep _ _ _ st5 fun b hb o e=>(I8.pin (b,o) (mem_append_right _ (mem_append_right _ (zcu hb e)))).1,fun b hb=>?_,w8⟩;obtain ⟨o,e,d⟩:=T.obj _ _ st5 b hb;exact (I8.pin (b,o) (mem_append_right _ (mem_append_right _ (zcu hb e)))).2.1
   cases ok with
   | false =>
     rw [if_neg Bool.false_ne_true] at q7 ⊢;exact again I7 q7
   | true =>
     rw [if_pos rfl] at q7 ⊢;have a8:=heY _ s7 σ6 H7 _ I7 q7;rw [hxe] at a8;refine thn a8 fun y s8 ⟨v,H8,I8,r8,ys,q8,hz8,n8⟩=>?_;have a9:=mt_append (X:=Y) _ s8 σ6 H8 (.ref s.heap.objs.size) [v] (.ref s.heap.objs.size) [y] (fun _ H'=>N' σ6 H') I8 rfl (.cons r8 .nil) ⟨_,ys,v,rfl,rfl,q8,hz8,n8⟩;rw [hxe] at a9;refine thn a9 fun _ s9 ⟨_,H9,I9,_,n9⟩=>?_;exact again I9 n9
 exact codeAny_compStart_list (loop _ rfl) (T.self _ 0 _ _ _ st1 (loop _ rfl))
theorem zgy {pins:List (Addr×Obj)} {σ:St} {H H':Hp} {s s':Shared} {h':Heap} {C:Addr} (I:Inv X pins σ H s) (hC:C=s.heap.objs.size+1) (I':Inv X pins σ H' s') (hn:H' C=none) (hs:Heap.SameBut C s'.heap h'):Inv X pins σ H' { s' with heap:=h' }:=by
 have hlt:∀ b:Addr,b < s.heap.objs.size→b≠C:=fun b hb=>by rw [hC];exact Nat.ne_of_lt (lt_succ_of_lt hb)
 refine I'.turned (it:=C) (t':=s'.toks) (fun b o hb e=>(hs.2 b hb).trans e) hn ?_ (.inr ?_) ?_ ?_
 ·exact (hlt _ I.lt).symm
 ·rw [hC];exact Nat.le_succ_of_le I.sz
 ·intro x c e;obtain ⟨v,q⟩:=I.cell x c e;exact hlt _ q.lt
 ·intro p hp;exact hlt _ (Heap.lt_size (I.pin p hp).1)
theorem zbD (S:zck X scope N own js) (hc:X.calm=true) (hi:PI X tg iter wi)
  (hg:∀ cl C s H fp,PG (X.comp scope cl C N s H fp) tg g) (hts:∀ cl C s H fp,PTs (X.comp scope cl C N s H fp) ifs tc) (he:∀ cl C s H fp,PE (X.comp scope cl C N s H fp) elt te)
  (hs:∀ x,foldedSetIterable iter X.env x=pure x:=by intro _;rfl):PE X (.ListComp elt [⟨tg,iter,ifs,0⟩] scope pos) (zfu wi own js g tc te):=by
 intro pins s σ H Q I h;rw [eval_ListComp];refine wpAny_comprehension_free (use:=none) rfl hs (zcS fun x hx hk=>I.ok.has x.1 (S.free x hx hk)) S.kind S.nodup (thn (hi pins s σ H _ I h) fun v s1 h1=>thn h1 fun itv s2 h2=>?_);obtain ⟨it,fp,tn,J,H2,e,I2,T,st2,f2,q⟩:=h2;subst e;refine zd5 (RR:=fun acc C=>compPost (model X.prog X.w) X.A X.xe none (EP X pins σ Q) acc C) S hc I2 T st2 f2 hg hts he q ?_;intro p C s' H' m hC hn I' hH' q';exact ⟨m,hn,fun h' hs'=>⟨.ref p,H',zgy I2 hC I' hH' hs',rfl,q'⟩⟩
theorem zgz {i:Nat} {y:Str} {py spos:Pos} (hN:X.N.Nodup) (hi':X.N[i]? = some y) (hx:Loc X.env.scope y) (hsw:swapsWith (.ListComp elt [⟨tg,iter,ifs,0⟩] scope pos) (some (.Name y py)) spos.line X.env=pure true)
  (S:zck X scope N own js) (hc:X.calm=true) (hi:PI X tg iter wi)
  (hg:∀ cl C s H fp,PG (X.comp scope cl C N s H fp) tg g) (hts:∀ cl C s H fp,PTs (X.comp scope cl C N s H fp) ifs tc) (he:∀ cl C s H fp,PE (X.comp scope cl C N s H fp) elt te)
  (hs:∀ x,foldedSetIterable iter X.env x=pure x:=by intro _;rfl) (hf:X.fn y=true∨X.env.scope.names.lookup y=some .local:=by first | exact .inl rfl | exact .inr rfl | assumption) :
  PS X (.Assign [.Name y py] (.ListComp elt [⟨tg,iter,ifs,0⟩] scope pos) spos) (tAsg (zfu wi own js g tc te) (zcg i)):=by
 intro pins s σ H D I h;rw [exec_Assign_Name_used _ _ _ _ hsw];refine wpAny_bind (wpAny_standAt (wpAny_bind ?_));show wpAny _ X.A (do let _ ← comprehension (.ListComp elt [⟨tg,iter,ifs,0⟩] scope pos) scope X.env _ (newList []) false (eval iter X.env) (some (assign (.Name y py) X.env))) _ _ s;refine wpAny_bind (wpAny_mono (wpAny_comprehension_free (use:=some (assign (.Name y py) X.env)) (Q:=fun _ s'=>SP X pins D .next s') rfl hs (zcS fun x hx hk=>I.ok.has x.1 (S.free x hx hk)) S.kind S.nodup
  (thn (hi pins s σ H _ I h) fun v s1 h1=>thn h1 fun itv s2 h2=>?_)) (fun _ s' hq=>wpAny_pure (wpAny_pure hq)) fun _ _ e=>e)
 obtain ⟨it,fp,tn,J,H2,e,I2,T,st2,f2,q⟩:=h2;subst e;refine zd5 (Q:=fun x H1=>zcg i x σ H1 D.nx) (RR:=fun acc C=>compPost (model X.prog X.w) X.A X.xe (some (assign (.Name y py) X.env)) (fun _ s'=>SP X pins D .next s') acc C) S hc I2 T st2 f2 hg hts he q ?_;intro p C s' H' m hC hn I' hH' q';show wpAny _ X.A (assign (.Name y py) X.env (.ref p)) _ _ _;refine wpAny_assign_Name (zeA (v:=.ref p) I' hN hi' hx rfl (fun s'' I'' hsb=>?_) hf);obtain ⟨a,hsb,ha⟩:=hsb;have hlt:∀ b:Addr,b < s2.heap.objs.size→b≠C:=fun b hb=>by rw [hC];exact Nat.ne_of_lt (lt_succ_of_lt hb)
 have hne:C≠a:=by
  rcases ha with rfl | ha
  ·exact (hlt _ I2.lt).symm
  ·obtain ⟨v,q⟩:=I2.cell y a ha;exact (hlt _ q.lt).symm
 refine ⟨m,hn.sameBut hsb hne,fun h' hs'=>⟨σ.set i (some (.ref p)),H',?_,q'⟩⟩;refine I''.turned (it:=C) (t':=s''.toks) (fun b o hb e=>(hs'.2 b hb).trans e) hH' ?_ (.inr ?_) ?_ ?_
 ·exact (hlt _ I2.lt).symm
 ·rw [hC];exact Nat.le_succ_of_le I2.sz
 ·intro x c e;obtain ⟨v,q⟩:=I2.cell x c e;exact hlt _ q.lt
 ·intro p hp;exact hlt _ (Heap.lt_size (I2.pin p hp).1)
end
end L2
namespace L2
open PySem PySem.Spec PyProof.Rows
theorem zfv {X:Cx}:zel X (.builtin "isinstance") (fun xs H Q=>∃ x n t b,xs=[x,.ty n]∧TyOf X.K H x t∧PySem.W.kitOne X.K t (.type n)=some b∧Q (.bl b) H):=by
 intro pins s σ H xs us Q I r h;obtain ⟨x,n,t,b,rfl,ty,e,q⟩:=h;obtain ⟨u,v,rfl,r1,r2⟩:=Vals.two r;have e2:v=Value.type n:=r2;subst e2;exact zg9 I r1 ty e fun tk=>⟨.bl b,H,I.tok _,rfl,q⟩
section
variable {X:Cx} {K:PySem.W.Frag}
theorem zah (h:X.K=K):IxR X (rIxL K):=h▸ix_list
theorem zf3 (h:X.K=K):SlR X (rSlL K):=h▸sl_list
theorem zkE (h:X.K=K):OpR X (compareOp .In) (rIn K false):=h▸op_in_seq
theorem zhr (h:X.K=K):OpR X (compareOp .NotIn) (rIn K true):=h▸op_notIn_seq
def cLen (K:PySem.W.Frag):List V→Hp→VK→Prop:=fun xs H Q=>∃ p ys,xs=[.ref p]∧(SqL K H p ys∨SqT K H p ys)∧Q (.int ys.length) H
theorem zaq (h:X.K=K):zel X (.builtin "len") (cLen K):=h▸call_len_seq
def cIsi (K:PySem.W.Frag):List V→Hp→VK→Prop:=fun xs H Q=>∃ x n t b,xs=[x,.ty n]∧TyOf K H x t∧PySem.W.kitOne K t (.type n)=some b∧Q (.bl b) H
theorem zbe (h:X.K=K):zel X (.builtin "isinstance") (cIsi K):=h▸zfv
theorem za0 {tg l:Expr} {tl:TE} (h:X.K=K) (hl:PE X l tl):PI X tg l (zim K tl):=h▸zjv hl
def zje (K:PySem.W.Frag) (ta:TE):TT:=fun σ H Q=>ta σ H fun x H'=>∃ k,TruV K x H' k∧Q k H'
theorem zaJ {a:Expr} {ta:TE} (h:X.K=K) (ha:PE X a ta) (he:∀ whole,isTrue a X.env whole=(do let v ← whole;standAt a.pos;holding [v] (truthy v))):PT X a (zje K ta):=h▸zio ha he
theorem zdh {o e:Expr} {es:List Expr} {to:TE} {t:TA} {name:Str} {apos cpos:Pos} {T id:String} {r:V→List V→Hp→VK→Prop} (h:X.K=K)
  (pa:PlainAttrs T) (slot:Slot T name id) (hty:typeOf (.builtin id)=pure (.type "method_descriptor")) (hm:MtR X id r) (ho:PE X o to) (ha:PA X (e::es) t)
  (hbase:attributeBase o name X.env (eval o X.env)=eval o X.env:=by rfl)
  (hfew:((backTo cpos (starEach (e::es) X.env)).all (fun x=>!x.1) && (backToKw cpos (keywordEach [] X.env)).all (fun x=>x.1.isSome)
   && decide ((e::es).length+([]:List Keyword).length+(if ([]:List Keyword).isEmpty then 0 else 1) < 30))=true:=by rfl)
  (hline:(apos.endLine == cpos.line)=true:=by rfl) (hs:starEach (e::es) X.env=(false,eval e X.env)::starEach es X.env:=by rfl) (hplain:(backTo cpos (starEach es X.env)).any (·.1)=false:=by rfl) :
  PE X (.Call (.Attribute o name apos) (e::es) [] cpos) (tBM K T r to t):=h▸zlD pa slot hty hm ho ha hbase hfew hline hs hplain
def rAddS:R2:=fun x y H Q=>∃ i j,x=.str i∧y=.str j∧i.length+j.length≤sizeLine∧Q (.str (i++j)) H
def rAddG:R2:=fun x y H Q=>rI0 (fun i j=>.int (i+j)) x y H Q∨rCat x y H Q∨rAddS x y H Q
theorem op_addG:OpR X (binaryOp .Add) rAddG:=op_add.or (op_cat.or op_add_str)
def rNeG (K:PySem.W.Frag):R2:=fun x y H Q=>rNe x y H Q
theorem zkF (h:X.K=K):OpR X (compareOp .NotEq) (rNeG K):=op_ne
end
def zjf (scope:Scope) (xn:List (Str×NameKind)) (XN N:List Str) (own:Nat) (js:List Nat):Bool :=
 (scope.kind == .function) && scope.names.all (fun y=>y.2 != .cell) && scope.names.all (fun y=>y.2 != .local || scope.names.lookup y.1 == some .local) &&
 scope.names.all (fun y=>y.2 != .free || (xn.lookup y.1 == some .cell || xn.lookup y.1 == some .free)) && (N.length == own+js.length) &&
 (List.range js.length).all (fun i=>(N[own+i]? == XN[js.getD i 0]?) && match XN[js.getD i 0]? with
  | some x=>scope.names.lookup x == some .free && (xn.lookup x == some .cell || xn.lookup x == some .free)
  | none=>true)
theorem zaD {X:Cx} {scope sc:Scope} {XN N:List Str} {own:Nat} {js:List Nat} (hs:X.env.scope=sc) (hN:X.N=XN) (h:zjf scope sc.names XN N own js=true):zck X scope N own js:=by
 subst hs hN;unfold zjf at h;simp only [Bool.and_eq_true,all_eq_true,beq_iff_eq,bne_iff_ne,Bool.or_eq_true,mem_range] at h;obtain ⟨⟨⟨⟨⟨h1,h2⟩,h3⟩,h4⟩,h5⟩,h6⟩:=h;refine ⟨h1,h2,fun y hy hk=>?_,fun y hy hk=>?_,h5,fun i j hj=>?_⟩
 ·rcases h3 y hy with z | z
  ·exact absurd hk z
  ·exact z
 ·rcases h4 y hy with z | z
  ·exact absurd hk z
  ·exact z
 ·have hi:i < js.length:=(List.getElem?_eq_some_iff.mp hj).1;have e:js.getD i 0=j:=by rw [getD_eq_getElem?_getD,hj];rfl
  obtain ⟨a,b⟩:=h6 i hi;rw [e] at a b;refine ⟨a,fun x hx=>?_⟩;rw [hx] at b;simp only [Bool.and_eq_true,beq_iff_eq,Bool.or_eq_true] at b;obtain ⟨b1,b2⟩:=b;refine ⟨b1,?_,?_⟩
  ·rcases b2 with z | z
   ·exact .inr (.inl z)
   ·exact .inr (.inr z)
  ·intro z;have z':X.env.scope.names.lookup x=some .local:=z;rcases b2 with q | q <;> rw [z'] at q <;> cases q
section
variable {σ σ':St} {H:Hp} {Q:VK} {QT:Bool→Hp→Prop} {QA:List V→Hp→Prop} {i j:Int} {v x y:V} {te ta tb:TE} {tc tc':TT} {tl tr:TA} {t u:TS} {K:PySem.W.Frag} {p:Addr} {xs:List V}
 {nx bk ct:St→Hp→Prop} {rt:VK} {D:Ends} {r r':R2} {n:Nat}
theorem zeM {i:Nat} (h:σ[i]? = some (some v)) (q:Q v H):tVar i σ H Q:=⟨v,h,q⟩
theorem r_c (q:Q v H):tC v σ H Q:=q
theorem r_op (h:ta σ H fun x H1=>tb σ H1 fun y H2=>r x y H2 Q):tOp r ta tb σ H Q:=h
theorem r_I0 {g:Int→Int→V} (q:Q (g i j) H):rI0 g (.int i) (.int j) H Q:=⟨i,j,rfl,rfl,q⟩
theorem zlG (q:Q (.bl (decide (i=j))) H):rEq (.int i) (.int j) H Q:=⟨rfl,by simpa using q⟩
theorem zlH (q:Q (.bl (!decide (i=j))) H):rNe (.int i) (.int j) H Q:=⟨rfl,by simpa using q⟩
theorem zlI {a b:Bool} (q:Q (.bl (decide (a=b))) H):rEq (.bl a) (.bl b) H Q:=⟨rfl,by simpa using q⟩
theorem zcy (h:SqL K H p xs) (e:atI xs i=some v) (q:Q v H):rIxL K (.ref p) (.int i) H Q:=⟨p,xs,i,v,rfl,rfl,h,e,q⟩
theorem r_cb {f:List V→Hp→VK→Prop} (h:tl σ H fun vs H1=>f vs H1 Q):tCB f tl σ H Q:=h
theorem zeN (q:QA [] H):tNil σ H QA:=q
theorem zeO (h:ta σ H fun x H1=>tl σ H1 fun xs H2=>QA (x::xs) H2):zfq ta tl σ H QA:=h
theorem zjg {sp:Sp} {E:XK} (h:tl σ H fun vs H1=>sp vs H1 Q E):zis sp [] E tl σ H Q:=by
 unfold zis;simpa only [append_nil] using h
theorem zb1 {c:Prop} {A B:Prop} [Decidable c] (h1:c→A) (h2:¬c→B):if decide c=true then A else B:=by
 by_cases h:c
 ·rw [if_pos (decide_eq_true h)];exact h1 h
 ·rw [if_neg (by simpa using h)];exact h2 h
theorem zf4 {c:Prop} {A B:Prop} [Decidable c] (h1:¬c→A) (h2:c→B):if (!decide c)=true then A else B:=by
 by_cases h:c
 ·rw [if_neg (by simpa using h)];exact h2 h
 ·rw [if_pos (by simpa using h)];exact h1 h
theorem zlJ {b:Bool} {A B:Prop} (h1:b=true→A) (h2:b=false→B):if b=true then A else B:=by
 cases b with
 | true=>exact h1 rfl
 | false=>exact h2 rfl
theorem zkG {b:Bool} {A B:Prop} (h1:b=false→A) (h2:b=true→B):if (!b)=true then A else B:=by
 cases b with
 | true=>exact h2 rfl
 | false=>exact h1 rfl
theorem zf5 {ns:List Int} {k:Int} (h0:0≤k) (h1:k < ns.length):atI (ns.map V.int) k=some (.int (ns.getD k.toNat 0)):=by
 obtain ⟨n,rfl⟩:=Int.eq_ofNat_of_zero_le h0;have hn:n < ns.length:=by omega
 refine zhe ?_;rw [getElem?_map,getD_eq_getElem?_getD,Int.toNat_natCast,getElem?_eq_getElem hn];rfl
theorem ziA {ps:List Addr} {k:Int} (h0:0≤k) (h1:k < ps.length):atI (ps.map V.ref) k=some (.ref (ps.getD k.toNat 0)):=by
 obtain ⟨n,rfl⟩:=Int.eq_ofNat_of_zero_le h0;have hn:n < ps.length:=by omega
 refine zhe ?_;rw [getElem?_map,getD_eq_getElem?_getD,Int.toNat_natCast,getElem?_eq_getElem hn];rfl
def zhs (xs:List V) (H:Hp) (Q:VK):Prop:=xs.length≤sizeLine∧∀ p,H p=none→Q (.ref p) (upd H p (.lst xs))
theorem zlK (h:tl σ H fun xs H1=>zhs xs H1 Q):tLst tl σ H Q:=h
theorem r_bm {T:String} {f:V→List V→Hp→VK→Prop} (h:te σ H fun x H1=>tyV K T x H1∧tl σ H1 fun xs H2=>f x xs H2 Q):tBM K T f te tl σ H Q:=h
theorem zkH (h:ta σ H fun x H1=>∃ c,x=.bl c∧if c=true then tb σ H1 Q else Q (.bl false) H1):zkl ta tb σ H Q:=h
theorem zlL (h:ta σ H fun x H1=>∃ c,x=.bl c∧if c=true then Q (.bl true) H1 else tb σ H1 Q):tOrV ta tb σ H Q:=h
theorem zkI (h:ta σ H fun x H1=>∃ c,x=.bl c∧Q (.bl (!c)) H1):zkm ta σ H Q:=h
theorem zkJ {b:Bool} {P:Bool→Prop} (h:P b):∃ c,V.bl b=.bl c∧P c:=⟨b,rfl,h⟩
theorem zkK (h:ta σ H fun x H'=>∃ k,x=.bl k∧QT k H'):zkt ta σ H QT:=h
theorem r_tB (h:ta σ H fun x H'=>∃ k,x=.bl k∧QT k H'):tB ta σ H QT:=h
theorem zlM (h:tc σ H fun c H1=>if c=true then tc' σ H1 QT else QT false H1):tAnd tc tc' σ H QT:=h
theorem r_or (h:tc σ H fun c H1=>if c=true then QT true H1 else tc' σ H1 QT):tOr tc tc' σ H QT:=h
theorem zlN (h:tc σ H fun c H1=>QT (!c) H1):tNot tc σ H QT:=h
theorem r_tt (h:QT true H):tTT σ H QT:=h
theorem zfw (h:t ⟨u ⟨nx,rt,bk,ct⟩,rt,bk,ct⟩ σ H):tSeq t u ⟨nx,rt,bk,ct⟩ σ H:=h
theorem zlO (h:te σ H rt):tRet te ⟨nx,rt,bk,ct⟩ σ H:=h
theorem zkL (h:te σ H fun _ H1=>nx σ H1):zkn te ⟨nx,rt,bk,ct⟩ σ H:=h
theorem zkM (h:nx σ H):tNext ⟨nx,rt,bk,ct⟩ σ H:=h
theorem zlP {i:Nat} (h:te σ H fun x H1=>nx (σ.set i (some x)) H1):tAsg te (zcg i) ⟨nx,rt,bk,ct⟩ σ H:=h
theorem zlQ (h:tc σ H fun b H1=>if b=true then t D σ H1 else u D σ H1):tIfS tc t u D σ H:=h
theorem zjL {i:Nat} {N:St→Hp→Prop} (h:N (σ.set i (some v)) H):zcg i v σ H N:=h
def ForR (lo:Int) (n:Nat) (g:TG) (tb:TS) (D:Ends) (σ:St) (H:Hp):Prop :=
 ∃ W:Nat→Nat→St→Hp→Prop,(∃ m,W 0 m σ H)∧∀ i m σ H,W i m σ H →
  ((Itr lo n).stop i H∧D.nx σ H)∨((Itr lo n).go i H∧∃ N:St→Hp→Prop,(∀ σ' H',N σ' H'→∃ m',m' < m∧W (i+1) m' σ' H')∧∀ x H',(Itr lo n).yld i H x H'→g x σ H' fun σ2 H2=>tb { D with nx:=N,ct:=N,bk:=D.nx } σ2 H2)
theorem zkN {g:TG} {tb:TS} (h:tl σ H fun vs H1=>∃ j:Int,vs=[.int j]∧-(2 ^ 62)≤j∧j < 2 ^ 62∧ForR 0 j.toNat g tb D σ H1):tFor (zjw tl) g tb D σ H:=h
theorem zkO {g:TG} {tb:TS} (h:tl σ H fun vs H1=>∃ i j:Int,vs=[.int i,.int j]∧(-(2 ^ 62)≤i∧i < 2 ^ 62∧-(2 ^ 62)≤j∧j < 2 ^ 62)∧ForR i (j-i).toNat g tb D σ H1):tFor (zjx tl) g tb D σ H:=h
theorem zdC {P:Int→Prop} (b1 : -(2 ^ 62)≤i) (b2:i < 2 ^ 62) (h:P i):∃ j:Int,[V.int i]=[.int j]∧-(2 ^ 62)≤j∧j < 2 ^ 62∧P j:=⟨i,rfl,b1,b2,h⟩
theorem zf6 {P:Int→Int→Prop} (b : -(2 ^ 62)≤i∧i < 2 ^ 62∧-(2 ^ 62)≤j∧j < 2 ^ 62) (h:P i j):∃ i' j':Int,[V.int i,V.int j]=[.int i',.int j']∧(-(2 ^ 62)≤i'∧i' < 2 ^ 62∧-(2 ^ 62)≤j'∧j' < 2 ^ 62)∧P i' j':=⟨i,j,rfl,b,h⟩
theorem zlR (h:SqL K H p xs) (q:Q (.int xs.length) H):cLen K [.ref p] H Q:=⟨p,xs,rfl,.inl h,q⟩
theorem zkP {ns:List Int} (h:SqL K H p (ns.map V.int)) (q:Q (.int ns.length) H):cLen K [.ref p] H Q:=⟨p,_,rfl,.inl h,by rw [length_map];exact q⟩
theorem zkQ {ns:List Addr} (h:SqL K H p (ns.map V.ref)) (q:Q (.int ns.length) H):cLen K [.ref p] H Q:=⟨p,_,rfl,.inl h,by rw [length_map];exact q⟩
theorem zlS {T:String} {ty:Value} {b:Bool} (h:TyOf K H x ty) (e:PySem.W.kitOne K ty (.type T)=some b) (q:Q (.bl b) H):cIsi K [x,.ty T] H Q:=⟨x,T,ty,b,rfl,h,e,q⟩
theorem zjM (h:ta σ H fun x H'=>∃ k,TruV K x H' k∧QT k H'):zje K ta σ H QT:=h
theorem zjN {b:Bool} {P:Bool→Prop} (h:P b):∃ k,TruV K (.bl b) H k∧P k:=⟨b,rfl,h⟩
theorem zkR (q:Q (.int (i+j)) H):rAddG (.int i) (.int j) H Q:=.inl ⟨i,j,rfl,rfl,q⟩
theorem zjh (q:Q (.bl (!decide (i=j))) H):rNeG K (.int i) (.int j) H Q:=zlH q
theorem zdD {lo:Int} {g:TG} {tb:TS} (Pv:Nat→St→Hp→Prop) (h0:Pv 0 σ H)
  (hs:∀ i σ H,i < n→Pv i σ H→g (.int (lo+i)) σ H fun σ2 H2=>tb ⟨Pv (i+1),rt,nx,Pv (i+1)⟩ σ2 H2) (hd:∀ σ H,Pv n σ H→nx σ H):ForR lo n g tb ⟨nx,rt,bk,ct⟩ σ H :=
 zg3 (D:=⟨nx,rt,bk,ct⟩) Pv h0 hs hd
end
end L2
namespace L2
open PySem PySem.Spec PyProof.Rows
section
variable {H:Hp} {Q:VK} {K:PySem.W.Frag} {p:Addr} {xs:List V} {y:V}
theorem zaO {H:Hp} {p:Addr} {o:HO} (hp:H p=none):Same H (upd H p o):=fun b u e=>by
 rw [zav (zag e hp)];exact e
def But (p:Addr) (H H':Hp):Prop:=∀ b,b≠p→H' b=H b
theorem But.upd {H:Hp} {p:Addr} {o:HO}:But p H (upd H p o):=fun b h=>zav h
theorem Same.but {B H H':Hp} {p:Addr} (s:Same B H) (b:But p H H') (hp:B p=none):Same B H':=fun c o e=>by
 rw [b c (zag e hp)];exact s c o e
theorem zai (hz:xs.length≤1000) (h:∀ p H2,H p=none→Same H H2→H2 p=some (.lst xs)→Q (.ref p) H2):zhs xs H Q :=
 ⟨Nat.le_of_lt (zaW hz),fun p hp=>h p _ hp (zaO hp) zao⟩
theorem zbg (h:H p=some (.lst xs)) (hz:xs.length≤1000000) (q:∀ H2,But p H H2→H2 p=some (.lst (xs++[y]))→Q .non H2):rAppend (.ref p) [y] H Q:=⟨p,xs,y,rfl,rfl,h,by rw [sizeLine_eq];omega,q _ But.upd zao⟩
theorem zeo {a b:Addr} {ys:List V} (h:H a=some (.lst xs)) (h':H b=some (.lst ys)) (hz:xs.length+ys.length≤1000) (q:∀ p H2,H p=none→Same H H2→H2 p=some (.lst (xs++ys))→Q (.ref p) H2):rAddG (.ref a) (.ref b) H Q :=
 .inr (.inl ⟨a,b,xs,ys,rfl,rfl,h,h',Nat.le_of_lt (zaW hz),fun p hp=>q p _ hp (zaO hp) zao⟩)
theorem zlT {f:Int→Int→V} {i j:Int} (c:0 < j) (q:Q (f i j) H):rI (fun _ j=>0 < j) f (.int i) (.int j) H Q:=⟨i,j,rfl,rfl,c,q⟩
theorem zlU {P:Prop} (h:H p=some (.lst xs)) (q:P):tyV K "list" (.ref p) H∧P:=⟨.inl ⟨rfl,_,SqL.of h⟩,q⟩
end
end L2
namespace L2
open PySem PySem.Spec PyProof.Rows
section
variable {σ:St} {H:Hp} {Q:VK} {K:PySem.W.Frag} {js:List Nat} {te:TE} {tc:TT} {J:It} {n:Nat} {x:Nat→V}
structure Iter (J:It) (n:Nat) (x:Nat→V) (H:Hp):Prop where
 go:∀ i H',Same H H'→i < n→J.go i H'
 yld:∀ i H' v H2,Same H H'→i < n→J.yld i H' v H2→H2=H'∧v=x i
 stop:∀ H',Same H H'→J.stop n H'
theorem zcv (lo:Int) (n:Nat) (H:Hp):Iter (Itr lo n) n (fun i=>.int (lo+i)) H :=
 ⟨fun i H' _ h=>h,fun i H' v H2 _ _ h=>h,fun H' _=>Nat.le_refl n⟩
theorem zbL {a:Addr} {xs:List V} (h:SqL K H a xs):Iter (Itl K a) xs.length (fun i=>xs.getD i .non) H :=
 ⟨fun i H' s hi=>⟨xs,xs[i],s.seq h,getElem?_eq_getElem hi⟩,fun i H' v H2 s hi h'=>⟨h'.1,by
  have:=h'.2 xs (s.seq h);rw [getD_eq_getElem?_getD,this];rfl⟩,fun H' s=>⟨xs,s.seq h,Nat.le_refl _⟩⟩
def zep (J:It) (js:List Nat) (tc:TT) (te:TE) (σ:St) (H:Hp) (Q:VK):Prop:=∀ p,H p=none →
 ∃ W:Nat→Nat→St→Hp→Prop,(∃ m,W 0 m (capS 1 js σ) (upd H p (.lst [])))∧∀ i m σc H,W i m σc H →
  (J.stop i H∧Q (.ref p) H)∨(J.go i H∧∃ N:St→Hp→Prop,(∀ σ' H',N σ' H'→∃ m',m' < m∧W (i+1) m' σ' H')∧∀ x H',J.yld i H x H' →
   zcg 0 x σc H' fun σ2 H2=>tc σ2 H2 fun b H3=>if b=true then te σ2 H3 fun v H4=>∃ ys,H4 p=some (.lst ys)∧ys.length < sizeLine∧N σ2 (upd H4 p (.lst (ys++[v]))) else N σ2 H3)
theorem zjO {tl:TA} (h:tl σ H fun vs H1=>∃ j:Int,vs=[.int j]∧-(2 ^ 62)≤j∧j < 2 ^ 62∧zep (Itr 0 j.toNat) js tc te σ H1 Q):zfu (zjw tl) 1 js (zcg 0) tc te σ H Q:=h
theorem zjP {tl:TA} (h:tl σ H fun vs H1=>∃ i j:Int,vs=[.int i,.int j]∧(-(2 ^ 62)≤i∧i < 2 ^ 62∧-(2 ^ 62)≤j∧j < 2 ^ 62)∧zep (Itr i (j-i).toNat) js tc te σ H1 Q):zfu (zjx tl) 1 js (zcg 0) tc te σ H Q:=h
theorem zjQ {tl:TE} (h:tl σ H fun x H1=>∃ a,x=.ref a∧(∃ xs,SqL K H1 a xs)∧zep (Itl K a) js tc te σ H1 Q):zfu (zim K tl) 1 js (zcg 0) tc te σ H Q:=h
def capV (js:List Nat) (σ:St):St:=js.map fun j=>(σ[j]?).getD none
theorem zht (u:Option V) (v:V):(u::capV js σ).set 0 (some v)=some v::capV js σ:=rfl
theorem zf7 {H H':Hp} {p:Addr} {o:HO} (s:Same H H') (hp:H p=none):Same H (upd H' p o):=fun b u e=>by
 rw [zav (zag e hp)];exact s b u e
theorem zcl (it:Iter J n x H) (hz:n < sizeLine) (c:Nat→Bool) (f:Nat→V)
  (ht:∀ i H' Q',i < n→Same H H'→Q' (c i) H'→tc (some (x i)::capV js σ) H' Q')
  (he:∀ i H' Q',i < n→Same H H'→c i=true→Q' (f i) H'→te (some (x i)::capV js σ) H' Q')
  (hq:∀ p,H p=none→Q (.ref p) (upd H p (.lst (((List.range n).filter c).map f)))):zep J js tc te σ H Q:=by
 intro p hp;refine ⟨fun i m σc H'=>m=n-i∧i≤n∧(∃ u,σc=u::capV js σ)∧H'=upd H p (.lst (((List.range i).filter c).map f)),⟨n,by simp,zero_le _,⟨none,rfl⟩,rfl⟩,?_⟩;rintro i m σc H' ⟨rfl,hi,⟨u,rfl⟩,rfl⟩;have s:∀ o,Same H (upd H p o):=fun o=>zaO hp;have hlen:(((List.range i).filter c).map f).length≤i:=by
  rw [length_map];exact Nat.le_trans (length_filter_le _ _) (by simp)
 by_cases hlt:i < n
 ·refine .inr ⟨it.go i _ (s _) hlt,fun σ' H'=>(∃ u,σ'=u::capV js σ)∧H'=upd H p (.lst (((List.range (i+1)).filter c).map f)),fun σ' H' ⟨h1,h2⟩=>⟨n-(i+1),by omega,rfl,hlt,h1,h2⟩,fun v H2 hy=>?_⟩;obtain ⟨rfl,rfl⟩:=it.yld i _ v H2 (s _) hlt hy;show tc ((u::capV js σ).set 0 (some (x i))) _ _;rw [zht];have e:(List.range (i+1)).filter c=(List.range i).filter c++if c i=true then [i] else []:=by
   rw [range_succ,filter_append]
   cases hc:c i <;> simp [hc]
  refine ht i _ _ hlt (s _) ?_
  cases hc:c i with
  | false =>
    rw [if_neg Bool.false_ne_true];refine ⟨⟨_,rfl⟩,?_⟩;rw [e,hc];simp
  | true =>
    rw [if_pos rfl];refine he i _ _ hlt (s _) hc ⟨_,zao,by omega,⟨_,rfl⟩,?_⟩;rw [zjs,e,hc];simp
 ·have e:i=n:=by omega
  subst e;exact .inl ⟨it.stop _ (s _),hq p hp⟩
def ForI (J:It) (g:TG) (tb:TS) (D:Ends) (σ:St) (H:Hp):Prop :=
 ∃ W:Nat→Nat→St→Hp→Prop,(∃ m,W 0 m σ H)∧∀ i m σ H,W i m σ H →
  (J.stop i H∧D.nx σ H)∨(J.go i H∧∃ N:St→Hp→Prop,(∀ σ' H',N σ' H'→∃ m',m' < m∧W (i+1) m' σ' H')∧∀ x H',J.yld i H x H'→g x σ H' fun σ2 H2=>tb { D with nx:=N,ct:=N,bk:=D.nx } σ2 H2)
theorem zkS {tl:TE} {g:TG} {tb:TS} {D:Ends} (h:tl σ H fun x H1=>∃ a,x=.ref a∧(∃ xs,SqL K H1 a xs)∧ForI (Itl K a) g tb D σ H1):tFor (zim K tl) g tb D σ H:=h
theorem zbq {a:Addr} {P:Addr→Prop} {xs:List V} (h:SqL K H a xs) (q:P a):∃ b,V.ref a=.ref b∧(∃ xs,SqL K H b xs)∧P b:=⟨a,rfl,⟨xs,h⟩,q⟩
theorem zcJ {a:Addr} {xs:List V} {g:TG} {tb:TS} {nx bk ct:St→Hp→Prop} {rt:VK} (Pv:Nat→St→Hp→Prop) (h0:Pv 0 σ H) (hl:∀ i σ H,i≤xs.length→Pv i σ H→SqL K H a xs)
  (hs:∀ i x σ H,xs[i]? = some x→Pv i σ H→g x σ H fun σ2 H2=>tb ⟨Pv (i+1),rt,nx,Pv (i+1)⟩ σ2 H2) (hd:∀ σ H,Pv xs.length σ H→nx σ H):ForI (Itl K a) g tb ⟨nx,rt,bk,ct⟩ σ H :=
 zin (D:=⟨nx,rt,bk,ct⟩) Pv h0 hl hs hd
theorem ziB {xs ys:List Int} (hl:xs.length=ys.length) (h:∀ j,j < xs.length→xs.getD j 0=ys.getD j 0):xs=ys:=by
 refine ext_getElem hl fun i h1 h2=>?_;have:=h i h1;rw [getD_eq_getElem?_getD,getD_eq_getElem?_getD,getElem?_eq_getElem h1,getElem?_eq_getElem h2] at this;exact this
theorem zdE (it:Iter J n x H) (hz:n≤1000) (f:Nat→Int)
  (he:∀ i H' Q',i < n→Same H H'→Q' (.int (f i)) H'→te (some (x i)::capV js σ) H' Q')
  (hq:∀ p H2,H p=none→Same H H2→H2 p=some (.lst (((List.range n).map f).map V.int))→Q (.ref p) H2):zep J js tTT te σ H Q:=by
 refine zcl it (zaW hz) (fun _=>true) (fun i=>.int (f i)) (fun i H' Q' _ _ q=>q) (fun i H' Q' hi s _ q=>he i H' Q' hi s q) fun p hp=>hq p _ hp (zaO hp) ?_;rw [zao,List.filter_eq_self.mpr (fun _ _=>rfl),map_map];rfl
theorem zhu (it:Iter J n x H) (hz:n≤1000) (c:Nat→Bool) (f:Nat→Int)
  (ht:∀ i H' Q',i < n→Same H H'→Q' (c i) H'→tc (some (x i)::capV js σ) H' Q')
  (he:∀ i H' Q',i < n→Same H H'→c i=true→Q' (.int (f i)) H'→te (some (x i)::capV js σ) H' Q')
  (hq:∀ p H2,H p=none→Same H H2→H2 p=some (.lst ((((List.range n).filter c).map f).map V.int))→Q (.ref p) H2):zep J js tc te σ H Q:=by
 refine zcl it (zaW hz) c (fun i=>.int (f i)) ht (fun i H' Q' hi s hc q=>he i H' Q' hi s hc q) fun p hp=>hq p _ hp (zaO hp) ?_;rw [zao,map_map];rfl
end
end L2
namespace L2
open PySem PySem.Spec PyProof.Rows
def LL (K:PySem.W.Frag) (H:Hp) (a:Addr) (rs:LI):Prop :=
 ∃ ps:List Addr,SqL K H a (ps.map V.ref)∧ps.length=rs.length∧∀ i,i < rs.length→H (ps.getD i 0)=some (.lst ((rs.getD i []).map V.int))
theorem LL.same {K:PySem.W.Frag} {H H':Hp} {a:Addr} {rs:LI} (h:LL K H a rs) (s:Same H H'):LL K H' a rs:=by
 obtain ⟨ps,h1,h2,h3⟩:=h;exact ⟨ps,s.seq h1,h2,fun i hi=>s _ _ (h3 i hi)⟩
structure zaL (B:Hp) (p:Addr) (rs:LI) (H:Hp):Prop where
 same:Same B H
 new:B p=none
 rows:∃ ps:List Addr,H p=some (.lst (ps.map V.ref))∧ps.length=rs.length∧ps.Nodup∧∀ i,i < rs.length→H (ps.getD i 0)=some (.lst ((rs.getD i []).map V.int))∧B (ps.getD i 0)=none∧ps.getD i 0≠p
theorem zaL.start {B H:Hp} {p:Addr} (hp:B p=none) (s:Same B H) (e:H p=some (.lst [])):zaL B p [] H :=
 ⟨s,hp,[],e,rfl,nodup_nil,fun i hi=>absurd hi (by simp)⟩
theorem zaF {α:Type} {xs ys:List α} {d:α} {i:Nat} (h:i < xs.length):(xs++ys).getD i d=xs.getD i d:=by
 rw [getD_eq_getElem?_getD,getD_eq_getElem?_getD,List.getElem?_append_left h]
theorem zaG {α:Type} {xs:List α} {y d:α}:(xs++[y]).getD xs.length d=y:=by
 rw [getD_eq_getElem?_getD,List.getElem?_append_right (Nat.le_refl _)];simp
theorem mem_getD {α:Type} {xs:List α} {d a:α} (h:a∈xs):∃ i,i < xs.length∧xs.getD i d=a:=by
 obtain ⟨k,hk,e⟩:=getElem_of_mem h;exact ⟨k,hk,by rw [getD_eq_getElem?_getD,getElem?_eq_getElem hk,e];rfl⟩
theorem zaL.push {B H H2 H3:Hp} {p q:Addr} {rs:LI} {r:List Int} {zs:List V} (R:zaL B p rs H) (hq:H q=none) (s:Same H H2) (e:H2 q=some (.lst (r.map V.int))) (hz:H2 p=some (.lst zs)) (b:But p H2 H3) (e3:H3 p=some (.lst (zs++[.ref q]))):zaL B p (rs++[r]) H3:=by
 obtain ⟨sb,hp,ps,h1,h2,nd,h3⟩:=R;have ez:zs=ps.map V.ref:=by
  have:=s p _ h1;rw [hz] at this;exact (HO.lst.inj (Option.some.inj this))
 subst ez;have hBq:B q=none:=sb.free hq;have hqp:q≠p:=(zag h1 hq).symm;refine ⟨(sb.trans s).but b hp,hp,ps++[q],by rw [e3,map_append];rfl,by simp [h2],?_,fun i hi=>?_⟩
 ·refine nodup_append.mpr ⟨nd,by simp,fun a ha c hc=>?_⟩;have hc':c=q:=by simpa using hc
  subst hc';obtain ⟨k,hk,ek⟩:=mem_getD (d:=0) ha;have:=(h3 k (by omega)).1;rw [ek] at this;exact zag this hq
 ·rw [length_append,length_singleton] at hi
  by_cases hlt:i < rs.length
  ·obtain ⟨a1,a2,a3⟩:=h3 i hlt;rw [zaF (by omega),zaF hlt];refine ⟨?_,a2,a3⟩;rw [b _ a3];exact s _ _ a1
  ·have ei:i=rs.length:=by omega
   subst ei;rw [zaG,← h2,zaG];refine ⟨?_,hBq,hqp⟩;rw [b _ hqp];exact e
theorem zaL.ll {K:PySem.W.Frag} {B H:Hp} {p:Addr} {rs:LI} (R:zaL B p rs H):LL K H p rs:=by
 obtain ⟨sb,hp,ps,h1,h2,nd,h3⟩:=R;exact ⟨ps,SqL.of h1,h2,fun i hi=>(h3 i hi).1⟩
theorem zaL.lst {B H:Hp} {p:Addr} {rs:LI} (R:zaL B p rs H):∃ zs:List V,H p=some (.lst zs)∧zs.length=rs.length:=by
 obtain ⟨sb,hp,ps,h1,h2,nd,h3⟩:=R;exact ⟨_,h1,by rw [length_map,h2]⟩
theorem zaw {α:Type} {f:Nat→α} {n i:Nat} {d:α} (h:i < n):((List.range n).map f).getD i d=f i:=by
 rw [getD_eq_getElem?_getD,getElem?_map,List.getElem?_range h];rfl
theorem zhv {xs ys:LI} (hl:xs.length=ys.length) (h:∀ j,j < xs.length→xs.getD j []=ys.getD j []):xs=ys:=by
 refine ext_getElem hl fun i h1 h2=>?_;have:=h i h1;rw [getD_eq_getElem?_getD,getD_eq_getElem?_getD,getElem?_eq_getElem h1,getElem?_eq_getElem h2] at this;exact this
end L2
namespace L2
open PySem PySem.Spec PyProof.Rows
section
variable {X:Cx} {tg:Expr}
end
section
variable {σ:St} {H:Hp} {i j:Int} {D:Ends} {nx bk ct:St→Hp→Prop} {rt:VK} {n:Nat} {Q:VK}
theorem r_un {f:Int→V} (q:Q (f i) H):rU f (.int i) H Q:=⟨i,rfl,q⟩
theorem zlV {r:V→Hp→VK→Prop} {ta:TE} (h:ta σ H fun x H1=>r x H1 Q):tUn r ta σ H Q:=h
end
end L2
namespace L2
open PySem PySem.Spec PyProof.Rows
section
variable {X:Cx} {pins:List (Addr×Obj)} {σ:St} {H:Hp} {s:Shared} {h':Heap}
theorem Inv.turnedNew {ch:List Addr} {T:Addr} {o:HO} {t':Nat} (I:Inv X pins σ H s) (k:∀ b ob,b∉ch→s.heap.get? b=some ob→h'.get? b=some ob) (hf:∀ b∈ch,FpOk X pins H b∧∃ ob,h'.get? b=some ob) (hT:s.heap.objs.size≤T)
  (new:zbn X.prog X.w (upd H T o) h' T o):Inv X pins σ (upd H T o) { s with heap:=h',toks:=t' }:=by
 have hn:H T=none:=I.hok.fresh hT;have ne:∀ b ob,s.heap.get? b=some ob→b≠T:=fun b ob e=>Nat.ne_of_lt (Nat.lt_of_lt_of_le (Heap.lt_size e) hT);have nch:∀ b u,H b=some u→b∉ch:=fun b u e z=>by rw [(hf b z).1.1] at e;cases e
 refine I.step (g':=s.gens) (d':=s.drawn) (ch:=ch) (fun b hb=>?_) (fun b ob _ _ hc e _=>k b ob hc e) (fun b ob _ _ hc e _=>⟨ob.slots,k b ob hc e⟩) (fun b ob _ e n=>by rw [zav (ne b ob e)];exact n)
  (fun b ob hc e=>⟨ob,k b ob hc e⟩) (fun b xs e=>by rw [zav (zag e hn)];exact e) (fun b ob u e=>by rw [zav (zag e hn)];exact e) (fun b ps e=>⟨#[],by rw [zav (zag e hn),e];simp⟩) (fun m hm=>?_) (fun b u e=>?_) I.bare
 ·obtain ⟨⟨f0,f1,f2,f3,f4,f5⟩,_⟩:=hf b hb;exact ⟨f3,f1,f4,f5⟩
 ·obtain ⟨ob,es,ep,ho,r⟩:=hm;exact ⟨ob,es,ep,k _ ob (fun z=>(hf _ z).1.2.1 rfl) ho,r⟩
 ·by_cases hb:b=T
  ·subst hb;rw [zao] at e;cases e;exact new
  ·rw [zav hb] at e;refine (I.hok b u e).stay (fun c v hc q=>k c v ?_ q) (fun c q=>by rw [zav (zag q hn)];exact q) fun c xs q=>by rw [zav (zag q hn)];exact q
   rcases hc with z | z
   ·rw [z];exact nch b u e
   ·exact nch c _ z
theorem Inv.turnedL {ch:List Addr} {t':Nat} (I:Inv X pins σ H s) (k:∀ b ob,b∉ch→s.heap.get? b=some ob→h'.get? b=some ob) (hf:∀ b∈ch,FpOk X pins H b):Inv X pins σ H { s with heap:=h',toks:=t' }:=by
 have nch:∀ b u,H b=some u→b∉ch:=fun b u e z=>by rw [(hf b z).1] at e;cases e
 refine I.step (g':=s.gens) (d':=s.drawn) (ch:=ch) (fun b hb=>?_) (fun b ob _ _ hc e _=>k b ob hc e) (fun b ob _ _ hc e _=>⟨ob.slots,k b ob hc e⟩) (fun b ob _ e n=>n)
  (fun b ob hc e=>⟨ob,k b ob hc e⟩) (fun b xs e=>e) (fun b ob u e=>e) (fun b ps e=>⟨#[],by rw [e];simp⟩) (fun m hm=>?_) (fun b u e=>?_) I.bare
 ·obtain ⟨f0,f1,f2,f3,f4,f5⟩:=hf b hb;exact ⟨f3,f1,f4,f5⟩
 ·obtain ⟨ob,es,ep,ho,r⟩:=hm;exact ⟨ob,es,ep,k _ ob (fun z=>(hf _ z).2.1 rfl) ho,r⟩
 ·refine (I.hok b u e).stay (fun c v hc q=>k c v ?_ q) (fun c q=>q) fun c xs q=>q;rcases hc with z | z
  ·rw [z];exact nch b u e
  ·exact nch c _ z
end
def Itz (K:PySem.W.Frag) (a b:Addr):It :=
 ⟨fun i H=>∃ xs ys x y,SqL K H a xs∧SqL K H b ys∧xs[i]? = some x∧ys[i]? = some y,
  fun i H v H'=>∃ T,H T=none∧v=.ref T∧∀ xs ys,SqL K H a xs→SqL K H b ys→∃ x y,xs[i]? = some x∧ys[i]? = some y∧H'=upd H T (.tup [x,y]),
  fun i H=>∃ xs ys,SqL K H a xs∧SqL K H b ys∧(xs.length≤i∨ys.length≤i)⟩
theorem ziC {P:Program} {w:World} {K:PySem.W.Frag} {elts:List Expr} {x1:Nat} {tpos:Pos} {l1 l2 z TI TO i1 i2:Addr} (D:ZipApart z TI TO i1 i2 l1 l2) :
  Turn P w K (.Tuple elts x1 tpos) (Itz K l1 l2) [z,TI,TO,i1,i2] z (fun i h=>IsZip h z TI TO .none∧IsPair h TI (.ref i1) (.ref i2)∧(∃ a b,IsPair h TO a b)∧h.IsListIter i1 l1 i∧h.IsListIter i2 l2 i) where
 mem:=by simp
 obj:=fun i h st b hb=>by
  obtain ⟨h1,h2,⟨_,_,h3⟩,⟨o4,h4,c4,d4⟩,⟨o5,h5,c5,d5⟩⟩:=st;simp only [mem_cons,not_mem_nil,or_false] at hb;rcases hb with rfl | rfl | rfl | rfl | rfl
  ·exact ⟨_,h1,fun v z=>by cases z⟩
  ·exact ⟨_,h2,fun v z=>by cases z⟩
  ·exact ⟨_,h3,fun v z=>by cases z⟩
  ·exact ⟨_,h4,fun v z=>by rw [d4] at z;cases z⟩
  ·exact ⟨_,h5,fun v z=>by rw [d5] at z;cases z⟩
 keep:=fun i h h' st k=>by
  obtain ⟨h1,h2,⟨a,b,h3⟩,h4,h5⟩:=st;exact ⟨k z (by simp) _ h1,k TI (by simp) _ h2,⟨a,b,k TO (by simp) _ h3⟩,h4.at fun o e=>k i1 (by simp) o e,h5.at fun o e=>k i2 (by simp) o e⟩
 item:=by
  intro X hP hw hK hc i pins s σ H E I hf st hg;subst hP hw hK;obtain ⟨xs,ys,x,y,hq1,hq2,hx,hy⟩:=hg;obtain ⟨its1,rv1,p1,hz1⟩:=I.list hq1;obtain ⟨its2,rv2,p2,hz2⟩:=I.list hq2;obtain ⟨u1,hu1,ru1⟩:=rv1.get hx;obtain ⟨u2,hu2,ru2⟩:=rv2.get hy;obtain ⟨g1,g2,⟨ta,tb,g3⟩,g4,g5⟩:=st;refine wpAny_pyNext_zip_item D g1 g2 g3 g4 g5 p1.isList p2.isList (x:=u1) (y:=u2) (by simpa using hu1) (by simpa using hu2) fun h' a1 a2 a3 a4 a5 a6 hk=>?_;refine ⟨_,rfl,?_⟩;refine wpAny_letOwnedTupleGo_zip a1 fun h2 b1 hs2=>?_;have hTn:H s.heap.objs.size=none:=I.hok.fresh (Nat.le_refl _);have ltz:∀ b∈[z,TI,TO,i1,i2],b≠s.heap.objs.size:=fun b hb=>by
   obtain ⟨⟨o,e⟩⟩:∃ o,s.heap.get? b=some o:=by
    obtain ⟨o4,e4,_⟩:=g4;obtain ⟨o5,e5,_⟩:=g5;simp only [mem_cons,not_mem_nil,or_false] at hb;rcases hb with rfl | rfl | rfl | rfl | rfl
    ·exact ⟨_,g1⟩
    ·exact ⟨_,g2⟩
    ·exact ⟨_,g3⟩
    ·exact ⟨_,e4⟩
    ·exact ⟨_,e5⟩
   exact Nat.ne_of_lt (Heap.lt_size ‹_›)
  have keep:∀ b ob,b∉[z,TO,i1,i2]→s.heap.get? b=some ob→h2.get? b=some ob:=fun b ob hb e=>by
   simp only [mem_cons,not_mem_nil,or_false,not_or] at hb;obtain ⟨n1,n2,n3,n4⟩:=hb;exact hs2.extBut b ob n1 (hk b ob n1 n2 n3 n4 e)
  have pT:IsPair h2 s.heap.objs.size u1 u2:=hs2.extBut _ _ (ltz z (by simp)).symm a5;have c4:h2.IsListIter i1 l1 (i+1):=a3.extBut hs2.extBut D.i1z;have c5:h2.IsListIter i2 l2 (i+1):=a4.extBut hs2.extBut D.i2z;have c3:IsPair h2 TO u1 u2:=hs2.extBut _ _ D.TOz a2;have c2:IsPair h2 TI (.ref i1) (.ref i2):=hs2.extBut _ _ D.TIz (hk _ _ D.TIz D.TITO D.TIi1 D.TIi2 g2);refine ⟨.ref s.heap.objs.size,upd H s.heap.objs.size (.tup [x,y]),?_,rfl,⟨_,hTn,rfl,fun xs' ys' q1' q2'=>?_⟩,⟨b1,c2,⟨_,_,c3⟩,c4,c5⟩,fun b hb=>?_⟩
  ·refine I.turnedNew (t':=s.toks) (ch:=[z,TO,i1,i2]) keep (fun b hb=>⟨hf b ?_,?_⟩) (Nat.le_refl _) ?_
   ·simp only [mem_cons,not_mem_nil,or_false] at hb ⊢;rcases hb with rfl | rfl | rfl | rfl <;> simp
   ·obtain ⟨o4,e4,_⟩:=c4;obtain ⟨o5,e5,_⟩:=c5;simp only [mem_cons,not_mem_nil,or_false] at hb;rcases hb with rfl | rfl | rfl | rfl
    ·exact ⟨_,b1⟩
    ·exact ⟨_,c3⟩
    ·exact ⟨_,e4⟩
    ·exact ⟨_,e5⟩
   ·exact ⟨by show 2≤sizeLine;rw [sizeLine_eq];decide,[u1,u2],.cons ru1 (.cons ru2 .nil),_,pT,rfl,_,rfl⟩
  ·rw [I.list_inj q1' hq1,I.list_inj q2' hq2];exact ⟨x,y,hx,hy,rfl⟩
  ·rw [zav (ltz b hb)];exact (hf b hb).1
 done:=by
  intro X hP hw hK hc i pins s σ H E I hf st hg;subst hP hw hK;obtain ⟨xs,ys,hq1,hq2,hx⟩:=hg;obtain ⟨its1,rv1,p1,hz1⟩:=I.list hq1;obtain ⟨its2,rv2,p2,hz2⟩:=I.list hq2;obtain ⟨g1,g2,⟨ta,tb,g3⟩,g4,g5⟩:=st;have hl1:=rv1.length;have hl2:=rv2.length;refine wpAny_pyNext_zip_end (I.ok.hd hc) D g1 g2 g3 g4 g5 p1.isList p2.isList ?_ fun h' hk=>⟨rfl,I.turnedL (t':=s.toks) (ch:=[z,TI,TO,i1,i2]) (fun b ob hb e=>?_) hf⟩
  ·rcases hx with hx | hx
   ·exact .inl (Array.getElem?_eq_none (by simp;omega))
   ·exact .inr (Array.getElem?_eq_none (by simp;omega))
  ·simp only [mem_cons,not_mem_nil,or_false,not_or] at hb;obtain ⟨n1,n2,n3,n4,n5⟩:=hb;exact hk b ob n1 n3 n4 n5 e
 self:=fun _ _ _ _ _ st h=>wpAny_pyIter_zip st.1 h
section
variable {X:Cx} {K:PySem.W.Frag}
def iZip (K:PySem.W.Frag) (ta:TA):TI:=fun σ H R=>ta σ H fun vs H1=>∃ a b xs ys,vs=[.ref a,.ref b]∧SqL K H1 a xs∧SqL K H1 b ys∧R (Itz K a b) H1
theorem zjR {a b:Expr} {ta:TA} {p pos tpos:Pos} {elts:List Expr} {x1:Nat} (hK:X.K=K) (hg:Gl X "zip") (hm:X.mg "zip"=none) (ha:PA X [a,b] ta) (hs:starEach [a,b] X.env=(false,eval a X.env)::starEach [b] X.env:=by rfl)
  (hs2:(backTo pos (starEach [b] X.env)).any (·.1)=false:=by rfl):PI X (.Tuple elts x1 tpos) (.Call (.Name "zip" p) [a,b] [] pos) (iZip K ta):=by
 subst hK;intro pins s σ H R I h;refine Call_ (zdv I hg hm boot_zip (PyProof.Rows.callWith_type1 (thn (ha pos pins s σ H _ I h) fun us s1 ⟨vs,H1,I1,r1,q1⟩=>?_) hs hs2));obtain ⟨l1,l2,xs,ys,e,q1,q2,q⟩:=q1;subst e;obtain ⟨v1,v2,rfl,r1,r2⟩:=Vals.two r1
 cases r1
 cases r2
 obtain ⟨its1,rv1,p1,hz1⟩:=I1.list q1;obtain ⟨its2,rv2,p2,hz2⟩:=I1.list q2;refine call_zip_2 p1.isList p2.isList fun h' hz hTI hTO hi1 hi2 hsz hk=>?_;refine wpAny_pyIter_zip hz ?_;obtain ⟨o1,e1,_⟩:=p1.isList;obtain ⟨o2,e2,_⟩:=p2.isList;have L1:=Heap.lt_size e1;have L2:=Heap.lt_size e2;have I2:Inv X pins σ H1 { s1 with heap:=h' }:=I1.kept (t':=s1.toks) hk;have nn:∀ k l:Nat,k≠l→s1.heap.objs.size+k≠s1.heap.objs.size+l:=fun k l hkl z=>hkl (Nat.add_left_cancel z);have n0:∀ k:Nat,0 < k→s1.heap.objs.size≠s1.heap.objs.size+k:=fun k hk=>by omega
 have D:ZipApart (s1.heap.objs.size+4) (s1.heap.objs.size+2) (s1.heap.objs.size+3) s1.heap.objs.size (s1.heap.objs.size+1) l1 l2:=by
  have m1:∀ k:Nat,l1≠s1.heap.objs.size+k:=fun k=>Nat.ne_of_lt (Nat.lt_of_lt_of_le L1 (le_add_right _ _));have m2:∀ k:Nat,l2≠s1.heap.objs.size+k:=fun k=>Nat.ne_of_lt (Nat.lt_of_lt_of_le L2 (le_add_right _ _));exact ⟨nn 2 4 (by decide),nn 3 4 (by decide),n0 4 (by decide),nn 1 4 (by decide),nn 2 3 (by decide),(n0 2 (by decide)).symm,nn 2 1 (by decide),(n0 3 (by decide)).symm,nn 3 1 (by decide),n0 1 (by decide),m1 4,m1 3,m1 0,m1 1,m2 4,m2 3,m2 0,m2 1⟩
 refine ⟨s1.heap.objs.size+4,_,_,Itz X.K l1 l2,H1,rfl,I2,ziC D,⟨hz,hTI,⟨_,_,hTO⟩,hi1,hi2⟩,fun b hb=>?_,q⟩;have hge:s1.heap.objs.size≤b:=by
  simp only [mem_cons,not_mem_nil,or_false] at hb;rcases hb with rfl | rfl | rfl | rfl | rfl
  ·exact le_add_right _ _
  ·exact le_add_right _ _
  ·exact le_add_right _ _
  ·exact Nat.le_refl _
  ·exact le_add_right _ _
 exact I1.fpOk hge (I1.hok.fresh hge)
theorem zfx {es:List Expr} {k:Nat} {t:TGs} {n:Nat} {pos:Pos} (hK:X.K=K) (hc:X.calm=true) (h:PGs X es t)
  (hn:(assignEach es X.env).length=n:=by rfl) (hst:(assignEach es X.env).findIdx? (·.1)=none:=by rfl):PG X (.Tuple es k pos) (gTup K n t):=hK▸zko hc h hn hst
end
section
variable {σ:St} {H:Hp} {D:Ends} {nx bk ct:St→Hp→Prop} {rt:VK} {K:PySem.W.Frag} {Q:VK}
theorem zjS {a b:Addr} {xs ys:List V} {P:Addr→Addr→Prop} (h1:SqL K H a xs) (h2:SqL K H b ys) (q:P a b):∃ a' b' xs ys,[V.ref a,V.ref b]=[.ref a',.ref b']∧SqL K H a' xs∧SqL K H b' ys∧P a' b':=⟨a,b,xs,ys,rfl,h1,h2,q⟩
end
theorem zbw {t u:TS} {nx bk ct:St→Hp→Prop} {rt:VK} {σ:St} {H:Hp} (M:St→Hp→Prop) (h1:∀ nx':St→Hp→Prop,(∀ σ' H',M σ' H'→nx' σ' H')→t ⟨nx',rt,bk,ct⟩ σ H)
  (h2:∀ σ' H',M σ' H'→u ⟨nx,rt,bk,ct⟩ σ' H'):tSeq t u ⟨nx,rt,bk,ct⟩ σ H:=h1 _ h2
section
variable {X:Cx} {K:PySem.W.Frag}
def eqVs:List V→List V→Bool
 | [],[]=>true
 | x::xs,y::ys=>eqV x y && eqVs xs ys
 | _,_=>false
theorem eqVs_len:∀ {xs ys:List V},xs.length≠ys.length→eqVs xs ys=false
 | [],[],h=>absurd rfl h
 | [],_::_,_=>rfl
 | _::_,[],_=>rfl
 | x::xs,y::ys,h=>by
   unfold eqVs;rw [eqVs_len (xs:=xs) (ys:=ys) (fun e=>h (by simp [e])),Bool.and_false]
theorem eqVs_all:∀ {xs ys:List V},xs.length=ys.length→(List.range xs.length).all (fun j=>eqV (xs.getD j .non) (ys.getD j .non))=eqVs xs ys
 | [],[],_=>rfl
 | x::xs,y::ys,h=>by
   have ih:=eqVs_all (xs:=xs) (ys:=ys) (by simpa using h);rw [length_cons,List.range_succ_eq_map,all_cons,all_map];unfold eqVs;rw [← ih];rfl
theorem eqVs_ints:∀ {xs ys:List Int},eqVs (xs.map V.int) (ys.map V.int)=decide (xs=ys)
 | [],[]=>rfl
 | [],_::_=>rfl
 | _::_,[]=>rfl
 | x::xs,y::ys=>by
   rw [map_cons,map_cons];unfold eqVs;rw [eqVs_ints]
   by_cases h:x=y
   ·subst h;simp [eqV]
   ·simp [eqV,h]
def rEqL (K:PySem.W.Frag):R2:=fun x y H Q=>∃ a b xs ys,x=.ref a∧y=.ref b∧SqL K H a xs∧SqL K H b ys∧xs.all flatV=true∧ys.all flatV=true∧Q (.bl (eqVs xs ys)) H
theorem zkT (hu:X.A.units < cLine):OpR X (compareOp .Eq) (rEqL X.K):=by
 intro pins s σ H x y v u Q I rx ry h;obtain ⟨a,b,xs,ys,rfl,rfl,h1,h2,f1,f2,q⟩:=h
 cases rx
 cases ry
 obtain ⟨its1,r1,p1,z1⟩:=I.list h1;obtain ⟨its2,r2,p2,z2⟩:=I.list h2;have l1:=r1.length;have l2:=r2.length
 by_cases hl:xs.length=ys.length
 ·refine SeqAt.eq_listAt (e:=fun j=>eqV (xs.getD j .non) (ys.getD j .non)) p1.isList p2.isList (by simp;omega) hu (fun j h1 h2=>?_) ⟨.bl _,H,I,rfl,?_⟩
  ·simp only [size_toArray] at h1 h2;have e1:xs[j]? = some (xs.getD j .non):=by rw [getD_eq_getElem?_getD,getElem?_eq_getElem (by omega)];rfl
   have e2:ys[j]? = some (ys.getD j .non):=by rw [getD_eq_getElem?_getD,getElem?_eq_getElem (by omega)];rfl
   obtain ⟨u1,a1,b1⟩:=r1.get e1;obtain ⟨u2,a2,b2⟩:=r2.get e2;have c1:its1.toArray[j]=u1:=by simpa [getElem?_eq_getElem h1] using a1
   have c2:its2.toArray[j]=u2:=by simpa [getElem?_eq_getElem h2] using a2
   rw [c1,c2];exact zhf b1 b2 (all_eq_true.mp f1 _ (mem_of_getElem? e1)) (all_eq_true.mp f2 _ (mem_of_getElem? e2))
  ·have e:its1.toArray.size=xs.length:=by simp;omega
   rw [e,eqVs_all hl];exact q
 ·refine SeqAt.eq_list_lengthsAt p1.isList p2.isList (by simp;omega) hu ⟨.bl false,H,I,rfl,?_⟩;rw [← eqVs_len hl];exact q
def ziD (K:PySem.W.Frag):R2:=fun x y H Q=>rEq x y H Q∨rEqL K x y H Q
theorem zjT (h:X.K=K) (hu:X.A.units < cLine):OpR X (compareOp .Eq) (ziD K):=op_eq.or (h▸zkT hu)
end
section
variable {H:Hp} {K:PySem.W.Frag} {Q:VK} {i j:Int}
theorem zjU (q:Q (.bl (decide (i=j))) H):ziD K (.int i) (.int j) H Q:=.inl (zlG q)
theorem zjV {a b:Bool} (q:Q (.bl (decide (a=b))) H):ziD K (.bl a) (.bl b) H Q:=.inl (zlI q)
theorem zhw {x:Int} {xs:List Int}:inV (.int x) (xs.map V.int)=decide (x∈xs):=by
 unfold inV;rw [Bool.eq_iff_iff,any_eq_true];simp only [mem_map,decide_eq_true_eq];constructor
 ·rintro ⟨v,⟨y,hy,rfl⟩,e⟩;have e':y=x:=by simpa [eqV] using e
  rw [← e'];exact hy
 ·intro h;exact ⟨_,⟨x,h,rfl⟩,by simp [eqV]⟩
theorem zlW {a:Addr} {xs:List Int} (h:SqL K H a (xs.map V.int)) (q:Q (.bl (decide (i∈xs))) H):rIn K false (.int i) (.ref a) H Q :=
 ⟨a,_,rfl,.inl h,rfl,by simp [flatV],by rw [zhw];exact q⟩
theorem ziE {a:Addr} {xs:List Int} (h:SqL K H a (xs.map V.int)) (q:Q (.bl (!decide (i∈xs))) H):rIn K true (.int i) (.ref a) H Q :=
 ⟨a,_,rfl,.inl h,rfl,by simp [flatV],by rw [zhw];exact q⟩
end
end L2
namespace L2
open PySem PySem.Spec PyProof.Rows
section
variable {prog:Program} {w:World} {A:Around} {R:Result→Shared→Prop}
end
section
variable {X:Cx} {K:PySem.W.Frag}
end
section
variable {σ:St} {H:Hp} {Q:VK} {K:PySem.W.Frag} {ta td:TE}
end
end L2
namespace Prf
open PySem PySem.Spec PyProof.Rows L2
def zdX (ns:List Int) (k:Int):Int:=if (ns.length:Int)=0 then 0 else ns.getD (k % ns.length).toNat 0+k / ns.length
structure SetM (m:Int) (xs:List Int):Prop where
 up:xs.Pairwise (· < ·)
 rng:∀ x∈xs,1≤x∧x≤m
def zbS (hs:List Int) (r:List Int) (n:Int) (x:Int):Int:=if r.getD 0 0≠hs.getD (x-1).toNat 0∧n < r.getD 1 0 then n+1 else n
def zf8 (hs:List Int) (r:List Int) (xs:List Int):Int:=xs.foldl (zbS hs r) 0
def zd6 (hs:List Int) (rs:LI) (xs:List Int):Int:=(rs.map fun r=>zf8 hs r xs).sum
theorem zfy (hs:List Int) (rs:LI) (xs:List Int) (i:Nat) (h:i < rs.length):zd6 hs (rs.take (i+1)) xs=zd6 hs (rs.take i) xs+zf8 hs (rs.getD i []) xs:=by
 unfold zd6;rw [take_add_one,getElem?_eq_getElem h,map_append,List.sum_append,getD_eq_getElem?_getD,getElem?_eq_getElem h];simp
theorem zc8 {xs:List Int} {i:Nat} {x:V} (hx:(xs.map V.int)[i]? = some x):i < xs.length∧x=.int (xs.getD i 0):=by
 have hi:i < xs.length:=by
  have:=(List.getElem?_eq_some_iff.mp hx).1;simpa using this
 refine ⟨hi,?_⟩;rw [getElem?_map,getElem?_eq_getElem hi] at hx;rw [getD_eq_getElem?_getD,getElem?_eq_getElem hi];exact (Option.some.inj hx).symm
theorem zhx {xs:List Addr} {i:Nat} {x:V} (hx:(xs.map V.ref)[i]? = some x):i < xs.length∧x=.ref (xs.getD i 0):=by
 have hi:i < xs.length:=by
  have:=(List.getElem?_eq_some_iff.mp hx).1;simpa using this
 refine ⟨hi,?_⟩;rw [getElem?_map,getElem?_eq_getElem hi] at hx;rw [getD_eq_getElem?_getD,getElem?_eq_getElem hi];exact (Option.some.inj hx).symm
theorem getD_mem {α:Type} {xs:List α} {d:α} {i:Nat} (h:i < xs.length):xs.getD i d∈xs:=by
 rw [getD_eq_getElem?_getD,getElem?_eq_getElem h];exact getElem_mem h
end Prf
namespace L2
open PySem PySem.Spec PyProof.Rows
section
variable {X:Cx} {K:PySem.W.Frag}
def CBig (i j:Int):Prop:=0 < j∧j < 2 ^ 200
theorem op_fdivB:OpR X (binaryOp .FloorDiv) (rI CBig fun i j=>.int (i / j)):=opI fun i j _ _ _ _ _ hc q=>by
 obtain ⟨h1,h2⟩:=hc;have hl:j.natAbs.log2 < 9000:=by
  have h3:j.natAbs < 2 ^ 200:=by
   have e:(j.natAbs:Int)=j:=Int.natAbs_of_nonneg (by omega);have:(j.natAbs:Int) < ((2 ^ 200:Nat):Int):=by rw [e];exact h2
   exact Int.ofNat_lt.mp this
  have h4:j.natAbs.log2 < 200:=(Nat.log2_lt (by omega)).mpr h3;omega
 refine floordiv_int (by omega) ?_ (.inl (PyProof.noPylong_of_log2 hl));rw [Int.fdiv_eq_ediv_of_nonneg i (by omega)];exact q
end
section
variable {σ:St} {H:Hp} {Q:VK} {K:PySem.W.Frag} {i j:Int} {p:Addr} {xs:List V} {ta:TA} {te:TE} {tl th:TO}
theorem zkU {f:Int→Int→V} (c1:0 < j) (c2:j < 2 ^ 200) (q:Q (f i j) H):rI CBig f (.int i) (.int j) H Q:=⟨i,j,rfl,rfl,⟨c1,c2⟩,q⟩
theorem r_sl {r:V→Option Int→Option Int→Hp→VK→Prop} (h:te σ H fun x H1=>tl σ H1 fun l H2=>th σ H2 fun u H3=>r x l u H3 Q):tSl r te tl th σ H Q:=h
theorem zjW {QO:Option Int→Hp→Prop} (h:QO none H):tNoPart σ H QO:=h
theorem zkV {QO:Option Int→Hp→Prop} (h:te σ H fun x H1=>∃ i,x=.int i∧QO (some i) H1):zkx te σ H QO:=h
theorem zjX {P:Int→Prop} (h:P i):∃ k,V.int i=.int k∧P k:=⟨i,rfl,h⟩
theorem zd7 {lo hi:Option Int} (h:SqL K H p xs) (q:∀ l H2,H l=none→Same H H2→H2 l=some (.lst (cutV xs lo hi))→Q (.ref l) H2):rSlL K (.ref p) lo hi H Q:=⟨p,xs,rfl,h,fun l hl=>q l _ hl (zaO hl) zao⟩
theorem zeP (k:Nat):cutV xs (some (k:Int)) none=xs.drop k:=by
 unfold cutV;rw [HT.sIx_none,HT.sIx_nat]
 by_cases h:k≤xs.length
 ·rw [Nat.min_eq_left h,List.take_of_length_le (by rw [length_drop];omega)]
 ·rw [Nat.min_eq_right (by omega),List.drop_eq_nil_of_le (Nat.le_refl _),List.drop_eq_nil_of_le (by omega)];simp
theorem zkW {n:Nat} {k:Int} (h0:0≤k) (h1:k < n):ixN n k=some k.toNat:=by
 unfold ixN;rw [if_pos h0,if_pos h1]
theorem ziF {v:V} {N:Hp→Prop} (h:H p=some (.lst xs)) (h0:0≤i) (h1:i < xs.length) (q:∀ H2,But p H H2→H2 p=some (.lst (xs.set i.toNat v))→N H2):rSetL (.ref p) (.int i) v H N:=⟨p,xs,i,_,rfl,rfl,h,zkW h0 h1,q _ But.upd zao⟩
end
end L2
namespace Prf
open PySem PySem.Spec PyProof.Rows L2
def cntB (rows:LI) (x:Int):Nat:=(rows.filter fun r=>decide (x∈r)).length
theorem zeQ (rows:LI) (x:Int):((List.range rows.length).filter fun i=>decide (x∈rows.getD i [])).length=cntB rows x:=by
 unfold cntB
 induction rows with
 | nil=>rfl
 | cons r rs ih =>
   rw [length_cons,List.range_succ_eq_map,filter_cons,filter_cons,filter_map,];have e:((fun i=>decide (x∈(r::rs).getD i []))∘Nat.succ)=fun i=>decide (x∈rs.getD i []):=by funext i;rfl
   rw [e]
   by_cases h:x∈r
   ·simp only [getD_cons_zero,h,decide_true,if_true,length_cons,length_map];rw [ih]
   ·simp only [getD_cons_zero,h,decide_false,Bool.false_eq_true,if_false,length_map];exact ih
theorem ziG {K:PySem.W.Frag} {σ:L2.St} {H:Hp} {Q:VK} {js:List Nat} {tc:TT} {a:Addr} {ps:List Addr} {rows:LI} {x:Int} (h1:SqL K H a (ps.map V.ref)) (h2:ps.length=rows.length) (hz:rows.length≤1000)
  (ht:∀ i H' (Q':Bool→Hp→Prop),i < rows.length→Same H H'→Q' (decide (x∈rows.getD i [])) H'→tc (some (.ref (ps.getD i 0))::capV js σ) H' Q')
  (hq:∀ p H2 zs,H p=none→Same H H2→H2 p=some (.lst zs)→zs.length=cntB rows x→Q (.ref p) H2):zep (Itl K a) js tc (tVar 0) σ H Q:=by
 have ex:∀ i,i < rows.length→(ps.map V.ref).getD i .non=.ref (ps.getD i 0):=fun i hi=>by
  rw [getD_eq_getElem?_getD,getElem?_map,getElem?_eq_getElem (by omega),getD_eq_getElem?_getD,getElem?_eq_getElem (by omega)];rfl
 have hl:(ps.map V.ref).length=rows.length:=by rw [length_map,h2]
 refine zcl (zbL h1) (by rw [hl];exact zaW hz) (fun i=>decide (x∈rows.getD i [])) (fun i=>.ref (ps.getD i 0)) (fun i H' Q' hi s q=>?_) (fun i H' Q' hi s _ q=>?_) fun p hp=>?_
 ·show tc (some ((ps.map V.ref).getD i .non)::capV js σ) H' Q';rw [hl] at hi;rw [ex i hi];exact ht i H' Q' hi s q
 ·show tVar 0 (some ((ps.map V.ref).getD i .non)::capV js σ) H' Q';rw [hl] at hi;rw [ex i hi];exact zeM (i:=0) rfl q
 ·refine hq p _ _ hp (zaO hp) zao ?_;rw [length_map,hl,zeQ]
end Prf
namespace L2
open PySem PySem.Spec PyProof.Rows
section
variable {X:Cx} {K:PySem.W.Frag}
def rIsN:R2:=fun x y H Q=>y=.non∧Q (.bl (decide (x=.non))) H
theorem op_isNN:OpR X (compareOp .Is) rIsN:=op_isN
end
section
variable {σ:St} {H:Hp} {Q:VK} {K:PySem.W.Frag} {x:V}
theorem zlX (q:Q (.bl (decide (x=.non))) H):rIsN x .non H Q:=⟨rfl,q⟩
theorem zeR (xs:List V) (c:V→Bool):((List.range xs.length).filter fun i=>c (xs.getD i .non)).map (fun i=>xs.getD i .non)=xs.filter c:=by
 induction xs with
 | nil=>rfl
 | cons y ys ih =>
   rw [length_cons,List.range_succ_eq_map,filter_cons,filter_map,filter_cons];have e:((fun i=>c ((y::ys).getD i .non))∘Nat.succ)=fun i=>c (ys.getD i .non):=by funext i;rfl
   have e2:∀ l:List Nat,(l.map Nat.succ).map (fun i=>(y::ys).getD i .non)=l.map fun i=>ys.getD i .non:=fun l=>by rw [map_map];rfl
   rw [e]
   cases h:c y with
   | true =>
     simp only [getD_cons_zero,h,if_true,map_cons];rw [e2,ih]
   | false =>
     simp only [getD_cons_zero,h,Bool.false_eq_true,if_false];rw [e2,ih]
theorem zhy {js:List Nat} {tc:TT} {a:Addr} {xs:List V} (h:SqL K H a xs) (hz:xs.length≤1000) (c:V→Bool)
  (ht:∀ i H' (Q':Bool→Hp→Prop),i < xs.length→Same H H'→Q' (c (xs.getD i .non)) H'→tc (some (xs.getD i .non)::capV js σ) H' Q')
  (hq:∀ p H2,H p=none→Same H H2→H2 p=some (.lst (xs.filter c))→Q (.ref p) H2):zep (Itl K a) js tc (tVar 0) σ H Q:=by
 refine zcl (zbL h) (zaW hz) (fun i=>c (xs.getD i .non)) (fun i=>xs.getD i .non) ht (fun i H' Q' _ _ _ q=>zeM (i:=0) rfl q) fun p hp=>hq p _ hp (zaO hp) ?_;rw [zao,zeR]
end
end L2
namespace Prf
open PySem PySem.Spec PyProof.Rows L2
def zdo (rs:LI) (h:Int) (row:List Int):Bool :=
 decide (row.length=2) && row.all (fun x=>decide (1≤x) && decide (x≤(rs.length:Int)) && !decide ((rs.getD (x-1).toNat []).getD 0 0=h)) && decide (row.getD 0 0 < row.getD 1 0)
def zaR (hs:List Int) (rs rows:LI):Bool :=
 decide (rows.length=hs.length) && (List.range hs.length).all (fun k=>zdo rs (hs.getD k 0) (rows.getD k [])) && (List.range rs.length).all (fun k=>decide ((cntB rows (0+(k:Int)+1):Int)≤(rs.getD k []).getD 1 0))
theorem zcB {n:Nat} {c:Nat→Bool} (h:∀ k,k < n→c k=true):(List.range n).all c=true:=all_eq_true.mpr fun k hk=>h k (mem_range.mp hk)
structure InB (hs:List Int) (rs:LI):Prop where
 lp:hs.length≤10
 lr:rs.length≤8
 hh:∀ i,i < hs.length→1≤hs.getD i 0∧hs.getD i 0≤6
 r2:∀ i,i < rs.length→(rs.getD i []).length=2
 rh:∀ i,i < rs.length→0≤(rs.getD i []).getD 0 0∧(rs.getD i []).getD 0 0≤6
 rl:∀ i,i < rs.length→0≤(rs.getD i []).getD 1 0∧(rs.getD i []).getD 1 0≤30
end Prf
namespace Hall
def sm:Nat→(Nat→Nat)→Nat
 | 0,_=>0
 | n+1,f=>sm n f+f n
theorem sm_congr {n:Nat} {f g:Nat→Nat} (h:∀ i,i < n→f i=g i):sm n f=sm n g:=by
 induction n with
 | zero=>rfl
 | succ n ih=>simp only [sm];rw [ih (fun i hi=>h i (by omega)),h n (by omega)]
theorem sm_add {n:Nat} {f g:Nat→Nat}:sm n (fun i=>f i+g i)=sm n f+sm n g:=by
 induction n with
 | zero=>rfl
 | succ n ih=>simp only [sm];rw [ih];omega
theorem sm_le {n:Nat} {f g:Nat→Nat} (h:∀ i,i < n→f i≤g i):sm n f≤sm n g:=by
 induction n with
 | zero=>exact Nat.le_refl _
 | succ n ih =>
   simp only [sm];have:=ih (fun i hi=>h i (by omega));have:=h n (by omega);omega
theorem sm_zero {n:Nat}:sm n (fun _=>0)=0:=by
 induction n with
 | zero=>rfl
 | succ n ih=>simp only [sm];omega
theorem sm_swap {n m:Nat} {f:Nat→Nat→Nat} :
  sm n (fun i=>sm m (fun j=>f i j))=sm m (fun j=>sm n (fun i=>f i j)):=by
 induction n with
 | zero=>simp only [sm];rw [sm_zero]
 | succ n ih=>simp only [sm];rw [ih,sm_add]
theorem zcm {n:Nat} {f g:Nat→Nat} (h:∀ i,i < n→f i≤g i) (e:sm n g≤sm n f) :
  ∀ i,i < n→f i=g i:=by
 induction n with
 | zero=>intro i hi;omega
 | succ n ih =>
   simp only [sm] at e;have h1:=sm_le (fun i hi=>h i (by omega):∀ i,i < n→f i≤g i);have h2:=h n (by omega);intro i hi
   by_cases hn:i=n
   ·subst hn;omega
   ·exact ih (fun i hi=>h i (by omega)) (by omega) i (by omega)
theorem zcC {n p:Nat} {f:Nat→Nat} (hp:p < n) (h:∀ i,i < n→i≠p→f i=0):sm n f=f p:=by
 induction n with
 | zero=>omega
 | succ n ih =>
   simp only [sm]
   by_cases hn:p=n
   ·subst hn;have:sm p f=sm p (fun _=>0):=sm_congr (fun i hi=>h i (by omega) (by omega));rw [this,sm_zero];omega
   ·rw [ih (by omega) (fun i hi hne=>h i (by omega) hne),h n (by omega) (by omega)];omega
theorem zkX {n:Nat} {f:Nat→Nat} (h:0 < sm n f):∃ i,i < n∧0 < f i:=by
 induction n with
 | zero=>simp [sm] at h
 | succ n ih =>
   simp only [sm] at h
   by_cases hn:0 < f n
   ·exact ⟨n,by omega,hn⟩
   ·obtain ⟨i,hi,hf⟩:=ih (by omega);exact ⟨i,by omega,hf⟩
theorem sm_lt {n p:Nat} {f g:Nat→Nat} (hp:p < n) (h:∀ i,i < n→f i≤g i) (hl:f p < g p) :
  sm n f < sm n g:=by
 have h1:=sm_le h;rcases Nat.lt_or_ge (sm n f) (sm n g) with h2 | h2
 ·exact h2
 ·have:=zcm h h2 p hp;omega
def b2 (b:Bool):Nat:=if b then 1 else 0
@[simp] theorem b2_t:b2 true=1:=rfl
@[simp] theorem b2_f:b2 false=0:=rfl
def deg (n:Nat) (A:Nat→Nat→Bool) (S:Nat→Bool) (r:Nat):Nat:=sm n fun p=>b2 (S p && A p r)
def room (n m:Nat) (L:Nat→Nat) (A:Nat→Nat→Bool) (S:Nat→Bool):Nat:=sm m fun r=>min (L r) (deg n A S r)
def need (n:Nat) (d:Nat→Nat) (S:Nat→Bool):Nat:=sm n fun p=>if S p then d p else 0
def Ok (n m:Nat) (L d:Nat→Nat) (A:Nat→Nat→Bool):Prop:=∀ S,need n d S≤room n m L A S
variable {n m:Nat} {L d:Nat→Nat} {A:Nat→Nat→Bool}
theorem zjY {S T:Nat→Bool} {r:Nat} :
  deg n A (fun p=>S p && T p) r+deg n A (fun p=>S p || T p) r=deg n A S r+deg n A T r:=by
 unfold deg;rw [← sm_add,← sm_add];apply sm_congr;intro i _;show b2 ((S i && T i) && A i r)+b2 ((S i || T i) && A i r)=b2 (S i && A i r)+b2 (T i && A i r)
 cases S i <;> cases T i <;> cases A i r <;> rfl
theorem ziH {S T:Nat→Bool} :
  need n d (fun p=>S p && T p)+need n d (fun p=>S p || T p)=need n d S+need n d T:=by
 unfold need;rw [← sm_add,← sm_add];apply sm_congr;intro i _;show (if S i && T i then d i else 0)+(if S i || T i then d i else 0)=(if S i then d i else 0)+(if T i then d i else 0)
 cases S i <;> cases T i <;> simp
theorem zdr {S T:Nat→Bool} (h:∀ p,S p=true→T p=true) {r:Nat}:deg n A S r≤deg n A T r:=by
 apply sm_le;intro i _;have h':=h i;show b2 (S i && A i r)≤b2 (T i && A i r)
 revert h'
 cases S i <;> cases T i <;> cases A i r <;> simp
theorem ziI {S T:Nat→Bool} :
  room n m L A (fun p=>S p && T p)+room n m L A (fun p=>S p || T p)≤room n m L A S+room n m L A T:=by
 unfold room;rw [← sm_add,← sm_add];apply sm_le;intro r _;have h1:=zjY (n:=n) (A:=A) (S:=S) (T:=T) (r:=r);have h2:deg n A (fun p=>S p && T p) r≤deg n A S r:=zdr (fun p h=>by simp at h;exact h.1);have h3:deg n A (fun p=>S p && T p) r≤deg n A T r:=zdr (fun p h=>by simp at h;exact h.2);omega
theorem zhz (hA:Ok n m L d A) {S T:Nat→Bool} (hS:room n m L A S=need n d S)
  (hT:room n m L A T=need n d T) :
  room n m L A (fun p=>S p && T p)=need n d (fun p=>S p && T p):=by
 have h1:=ziI (n:=n) (m:=m) (L:=L) (A:=A) (S:=S) (T:=T);have h2:=ziH (n:=n) (d:=d) (S:=S) (T:=T);have h3:=hA (fun p=>S p && T p);have h4:=hA (fun p=>S p || T p);omega
def cut (A:Nat→Nat→Bool) (p r:Nat):Nat→Nat→Bool:=fun q s=>A q s && !(q == p && s == r)
theorem zjZ {p r q s:Nat} (h:cut A p r q s=true):A q s=true:=by
 unfold cut at h;simp at h;exact h.1
theorem zd8 {p r s:Nat} (h:s≠r) {S:Nat→Bool}:deg n (cut A p r) S s=deg n A S s:=by
 unfold deg cut;apply sm_congr;intro i _;have:(s == r)=false:=by simp [h]
 simp [this]
theorem zd9 {p r:Nat} (hp:p < n) {S:Nat→Bool} :
  deg n (cut A p r) S r+b2 (S p && A p r)=deg n A S r:=by
 unfold deg;have:b2 (S p && A p r)=sm n (fun q=>b2 (q == p && (S p && A p r))):=by
  rw [zcC hp]
  ·simp
  ·intro i _ hi;have:(i == p)=false:=by simp [hi]
   simp [this]
 rw [this,← sm_add];apply sm_congr;intro i _;unfold cut
 by_cases hi:i=p
 ·subst hi
  cases S i <;> cases A i r <;> simp
 ·have:(i == p)=false:=by simp [hi]
  simp [this]
theorem zj0 {p r:Nat} (hp:p < n) {S:Nat→Bool} (hS:S p=true) :
  deg n A (fun q=>S q && !(q == p)) r+b2 (A p r)=deg n A S r:=by
 unfold deg;have:b2 (A p r)=sm n (fun q=>b2 (q == p && A p r)):=by
  rw [zcC hp]
  ·simp
  ·intro i _ hi;have:(i == p)=false:=by simp [hi]
   simp [this]
 rw [this,← sm_add];apply sm_congr;intro i _
 by_cases hi:i=p
 ·subst hi;simp [hS]
 ·have:(i == p)=false:=by simp [hi]
  simp [this]
theorem ziJ {p:Nat} (hp:p < n) {S:Nat→Bool} (hS:S p=true) :
  need n d (fun q=>S q && !(q == p))+d p=need n d S:=by
 unfold need;have:d p=sm n (fun q=>if q == p then d p else 0):=by
  rw [zcC hp]
  ·simp
  ·intro i _ hi;have:(i == p)=false:=by simp [hi]
   simp [this]
 rw [this,← sm_add];apply sm_congr;intro i _
 by_cases hi:i=p
 ·subst hi;simp [hS]
 ·have:(i == p)=false:=by simp [hi]
  simp [this]
theorem zf9 (hA:Ok n m L d A) {p r:Nat} (hp:p < n) (hr:r < m) (ha:A p r=true)
  (hn:¬Ok n m L d (cut A p r)) :
  ∃ S,room n m L A S=need n d S∧S p=true∧deg n A S r≤L r:=by
 have hn':∃ S,¬need n d S≤room n m L (cut A p r) S:=by
  apply Classical.byContradiction;intro hc;exact hn (fun S=>Classical.byContradiction fun h=>hc ⟨S,h⟩)
 obtain ⟨S,hS⟩:=hn';have h1:=hA S;have hle:∀ s,s < m→min (L s) (deg n (cut A p r) S s)≤min (L s) (deg n A S s):=by
  intro s _
  by_cases h:s=r
  ·subst h;have:=zd9 (A:=A) (r:=s) hp (S:=S);omega
  ·rw [zd8 h];exact Nat.le_refl _
 have hd:room n m L A S≤room n m L (cut A p r) S+(min (L r) (deg n A S r)-min (L r) (deg n (cut A p r) S r)):=by
  unfold room;have:min (L r) (deg n A S r)-min (L r) (deg n (cut A p r) S r)
    = sm m (fun s=>if s=r then min (L r) (deg n A S r)-min (L r) (deg n (cut A p r) S r) else 0):=by
   rw [zcC hr]
   ·simp
   ·intro i _ hi;simp [hi]
  rw [this,← sm_add];apply sm_le;intro s hs
  by_cases h:s=r
  ·subst h;simp;omega
  ·simp [h,zd8 h]
 have hc:=zd9 (A:=A) (r:=r) hp (S:=S);rw [ha] at hc;simp only [Bool.and_true] at hc;refine ⟨S,?_,?_,?_⟩
 ·cases hSp:S p
  ·rw [hSp,b2_f] at hc;omega
  ·rw [hSp,b2_t] at hc;omega
 ·cases hSp:S p
  ·rw [hSp,b2_f] at hc;omega
  ·rfl
 ·cases hSp:S p
  ·rw [hSp,b2_f] at hc;omega
  ·rw [hSp,b2_t] at hc;omega
theorem ziK (hA:Ok n m L d A) {p:Nat} (hp:p < n) (hd:d p < sm m (fun r=>b2 (A p r)))
  (hn:∀ r,r < m→A p r=true→¬Ok n m L d (cut A p r)):False:=by
 have h0:∃ r,r < m∧0 < b2 (A p r):=zkX (by omega);obtain ⟨r0,hr0,hb0⟩:=h0;have ha0:A p r0=true:=by cases h:A p r0 <;> simp_all
 have key:∀ k,k≤m→∃ T,room n m L A T=need n d T∧T p=true∧∀ r,r < k→A p r=true→deg n A T r≤L r:=by
  intro k
  induction k with
  | zero =>
    intro _;obtain ⟨S,h1,h2,_⟩:=zf9 hA hp hr0 ha0 (hn r0 hr0 ha0);exact ⟨S,h1,h2,fun r hr=>by omega⟩
  | succ k ih =>
    intro hk;obtain ⟨T,h1,h2,h3⟩:=ih (by omega)
    cases hak:A p k
    ·refine ⟨T,h1,h2,fun r hr ha=>?_⟩
     by_cases h:r=k
     ·subst h;rw [hak] at ha;simp at ha
     ·exact h3 r (by omega) ha
    ·obtain ⟨S,g1,g2,g3⟩:=zf9 hA hp (by omega) hak (hn k (by omega) hak);refine ⟨fun q=>T q && S q,zhz hA h1 g1,by simp [h2,g2],fun r hr ha=>?_⟩;have m1:deg n A (fun q=>T q && S q) r≤deg n A T r:=zdr (fun q h=>by simp at h;exact h.1);have m2:deg n A (fun q=>T q && S q) r≤deg n A S r:=zdr (fun q h=>by simp at h;exact h.2)
     by_cases h:r=k
     ·subst h;omega
     ·have:=h3 r (by omega) ha;omega
 obtain ⟨T,h1,h2,h3⟩:=key m (Nat.le_refl _);have e1:room n m L A T=room n m L A (fun q=>T q && !(q == p))+sm m (fun r=>b2 (A p r)):=by
  unfold room;rw [← sm_add];apply sm_congr;intro r hr;have e:=zj0 (A:=A) (r:=r) hp h2
  cases ha:A p r
  ·rw [ha] at e;simp at e;simp;omega
  ·have:=h3 r hr ha;rw [ha] at e;simp at e;simp;omega
 have e2:=ziJ (d:=d) hp h2;have e3:=hA (fun q=>T q && !(q == p));omega
def zhA (n m:Nat) (A:Nat→Nat→Bool):Nat:=sm n fun p=>sm m fun r=>b2 (A p r)
theorem zhB {p r:Nat} (hp:p < n) (hr:r < m) (ha:A p r=true) :
  zhA n m (cut A p r) < zhA n m A:=by
 have hle:∀ q s,b2 (cut A p r q s)≤b2 (A q s):=by
  intro q s;show b2 (A q s && !(q == p && s == r))≤b2 (A q s)
  cases A q s <;> cases (q == p) <;> cases (s == r) <;> simp
 apply sm_lt hp
 ·intro q _;exact sm_le (fun s _=>hle q s)
 ·apply sm_lt hr
  ·intro s _;exact hle p s
  ·unfold cut;simp [ha]
theorem hall:∀ k (A:Nat→Nat→Bool),zhA n m A≤k→Ok n m L d A →
  ∃ B:Nat→Nat→Bool,(∀ p r,B p r=true→A p r=true) ∧
   (∀ p,p < n→sm m (fun r=>b2 (B p r))=d p)∧(∀ r,r < m→sm n (fun p=>b2 (B p r))≤L r):=by
 intro k
 induction k with
 | zero =>
   intro A he hA;refine ⟨A,fun _ _ h=>h,?_,?_⟩
   ·intro p hp;have h0:sm m (fun r=>b2 (A p r))=0:=by
     have:=zcm (n:=n) (f:=fun _=>0) (g:=fun p=>sm m fun r=>b2 (A p r)) (fun _ _=>by omega)
      (by rw [sm_zero];exact he) p hp
     exact this.symm
    have h1:=hA (fun q=>q == p);have h2:need n d (fun q=>q == p)=d p:=by
     unfold need;rw [zcC hp]
     ·simp
     ·intro i _ hi;simp [hi]
    have h3:room n m L A (fun q=>q == p)≤sm m (fun r=>b2 (A p r)):=by
     unfold room;apply sm_le;intro r _;have:deg n A (fun q=>q == p) r=b2 (A p r):=by
      unfold deg;rw [zcC hp]
      ·simp
      ·intro i _ hi;have:(i == p)=false:=by simp [hi]
       simp [this]
     omega
    omega
   ·intro r hr;have h0:sm n (fun p=>b2 (A p r))=0:=by
     unfold zhA at he;rw [sm_swap] at he;have:=zcm (n:=m) (f:=fun _=>0) (g:=fun r=>sm n fun p=>b2 (A p r)) (fun _ _=>by omega)
      (by rw [sm_zero];exact he) r hr
     exact this.symm
    omega
 | succ k ih =>
   intro A he hA
   by_cases hall:∀ p,p < n→sm m (fun r=>b2 (A p r))=d p
   ·refine ⟨A,fun _ _ h=>h,hall,?_⟩;have h1:=hA (fun _=>true);have h2:need n d (fun _=>true)=sm n (fun p=>sm m (fun r=>b2 (A p r))):=by
     unfold need;apply sm_congr;intro i hi;rw [hall i hi];simp
    rw [h2,sm_swap] at h1;unfold room at h1;intro r hr;have h3:=zcm (n:=m) (f:=fun r=>min (L r) (deg n A (fun _=>true) r))
     (g:=fun r=>sm n (fun p=>b2 (A p r)))
     (fun r _=>by
      have:deg n A (fun _=>true) r=sm n (fun p=>b2 (A p r)):=by
       unfold deg;apply sm_congr;intro i _;simp
      show min _ _≤_;omega) h1 r hr
    omega
   ·have:∃ p,p < n∧sm m (fun r=>b2 (A p r))≠d p:=by
     apply Classical.byContradiction;intro hc;exact hall (fun p hp=>Classical.byContradiction fun h=>hc ⟨p,hp,h⟩)
    obtain ⟨p,hp,hne⟩:=this;have hge:d p≤sm m (fun r=>b2 (A p r)):=by
     have h1:=hA (fun q=>q == p);have h2:need n d (fun q=>q == p)=d p:=by
      unfold need;rw [zcC hp]
      ·simp
      ·intro i _ hi;simp [hi]
     have h3:room n m L A (fun q=>q == p)≤sm m (fun r=>b2 (A p r)):=by
      unfold room;apply sm_le;intro r _;have:deg n A (fun q=>q == p) r=b2 (A p r):=by
       unfold deg;rw [zcC hp]
       ·simp
       ·intro i _ hi;have:(i == p)=false:=by simp [hi]
        simp [this]
      omega
     omega
    by_cases hs:∃ r,r < m∧A p r=true∧Ok n m L d (cut A p r)
    ·obtain ⟨r,hr,ha,hok⟩:=hs;have hlt:=zhB (n:=n) (m:=m) hp hr ha;obtain ⟨B,b1,b2',b3⟩:=ih (cut A p r) (by omega) hok;exact ⟨B,fun q s h=>zjZ (b1 q s h),b2',b3⟩
    ·exact (ziK hA hp (by omega) (fun r hr ha hok=>hs ⟨r,hr,ha,hok⟩)).elim
end Hall
namespace Hall
variable {n m:Nat} {L d:Nat→Nat} {A:Nat→Nat→Bool}
theorem room_of {B:Nat→Nat→Bool} (hs:∀ p r,B p r=true→A p r=true)
  (hd:∀ p,p < n→sm m (fun r=>b2 (B p r))=d p) (hL:∀ r,r < m→sm n (fun p=>b2 (B p r))≤L r) :
  Ok n m L d A:=by
 intro S;have h1:need n d S=sm m (fun r=>deg n B S r):=by
  unfold need deg;rw [sm_swap];apply sm_congr;intro p hp
  cases hS:S p
  ·simp only [Bool.false_and,b2_f];rw [sm_zero];rfl
  ·simp only [Bool.true_and];rw [hd p hp];rfl
 rw [h1];apply sm_le;intro r hr;have h2:deg n B S r≤deg n A S r:=by
  apply sm_le;intro p _;have:=hs p r
  revert this
  cases S p <;> cases B p r <;> cases A p r <;> simp
 have h3:deg n B S r≤sm n (fun p=>b2 (B p r)):=by
  apply sm_le;intro p _
  cases S p <;> cases B p r <;> simp
 have:=hL r hr;show _≤min (L r) (deg n A S r);omega
theorem zkY {f:Nat→Bool} (h:sm m (fun r=>b2 (f r))=1) :
  ∃ a,a < m∧f a=true∧∀ r,r < m→f r=true→r=a:=by
 induction m with
 | zero=>simp [sm] at h
 | succ m ih =>
   simp only [sm] at h
   cases hf:f m
   ·rw [hf,b2_f] at h;obtain ⟨a,h1,h2,h3⟩:=ih (by omega);refine ⟨a,by omega,h2,fun r hr hfr=>?_⟩
    by_cases e:r=m
    ·subst e;rw [hf] at hfr;simp at hfr
    ·exact h3 r (by omega) hfr
   ·rw [hf,b2_t] at h;refine ⟨m,by omega,hf,fun r hr hfr=>?_⟩
    by_cases e:r=m
    ·exact e
    ·have:=zcm (n:=m) (f:=fun _=>0) (g:=fun r=>b2 (f r)) (fun _ _=>by omega) (by rw [sm_zero];omega) r (by omega);rw [hfr] at this;simp at this
theorem two_of {f:Nat→Bool} (h:sm m (fun r=>b2 (f r))=2) :
  ∃ a b,a < b∧b < m∧f a=true∧f b=true∧∀ r,r < m→f r=true→r=a∨r=b:=by
 induction m with
 | zero=>simp [sm] at h
 | succ m ih =>
   simp only [sm] at h
   cases hf:f m
   ·rw [hf,b2_f] at h;obtain ⟨a,b,h1,h2,h3,h4,h5⟩:=ih (by omega);refine ⟨a,b,h1,by omega,h3,h4,fun r hr hfr=>?_⟩
    by_cases e:r=m
    ·subst e;rw [hf] at hfr;simp at hfr
    ·exact h5 r (by omega) hfr
   ·rw [hf,b2_t] at h;obtain ⟨a,h1,h2,h3⟩:=zkY (m:=m) (f:=f) (by omega);refine ⟨a,m,h1,by omega,h2,hf,fun r hr hfr=>?_⟩
    by_cases e:r=m
    ·exact Or.inr e
    ·exact Or.inl (h3 r (by omega) hfr)
structure Deal (n m:Nat) (L:Nat→Nat) (A:Nat→Nat→Bool) (D:Nat→Nat×Nat):Prop where
 lt:∀ p,p < n→(D p).1 < (D p).2
 hi:∀ p,p < n→(D p).2 < m
 a:∀ p,p < n→A p (D p).1=true
 b:∀ p,p < n→A p (D p).2=true
 lim:∀ r,r < m→sm n (fun p=>b2 (r == (D p).1 || r == (D p).2))≤L r
theorem two_eq {a b:Nat} (h:a < b) (hb:b < m):sm m (fun r=>b2 (r == a || r == b))=2:=by
 have:sm m (fun r=>b2 (r == a || r == b))=sm m (fun r=>b2 (r == a)+b2 (r == b)):=by
  apply sm_congr;intro r _
  by_cases h1:r=a
  ·subst h1;have:(r == b)=false:=by simp;omega
   simp [this]
  ·have:(r == a)=false:=by simp [h1]
   simp [this]
 rw [this,sm_add,zcC (p:=a) (by omega),zcC (p:=b) hb]
 ·simp
 ·intro i _ hi;have:(i == b)=false:=by simp [hi]
  simp [this]
 ·intro i _ hi;have:(i == a)=false:=by simp [hi]
  simp [this]
theorem deal_iff:(∃ D,Deal n m L A D)↔Ok n m L (fun _=>2) A:=by
 constructor
 ·rintro ⟨D,h⟩ S;have:=room_of (n:=n) (m:=m) (L:=L) (d:=fun _=>2) (A:=A)
   (B:=fun p r=>decide (p < n) && (r == (D p).1 || r == (D p).2))
   (fun p r hb=>by
    simp at hb;obtain ⟨hp,hb⟩:=hb;rcases hb with e | e
    ·rw [e];exact h.a p hp
    ·rw [e];exact h.b p hp)
   (fun p hp=>by
    have:decide (p < n)=true:=by simp [hp]
    simp only [this,Bool.true_and];exact two_eq (h.lt p hp) (h.hi p hp))
   (fun r hr=>by
    have:=h.lim r hr;refine Nat.le_trans (sm_le fun p _=>?_) this;show b2 (decide (p < n) && (r == (D p).1 || r == (D p).2))≤b2 (r == (D p).1 || r == (D p).2)
    cases decide (p < n) <;> simp)
  exact this S
 ·intro h;obtain ⟨B,b1,h2,h3⟩:=hall (n:=n) (m:=m) (L:=L) (d:=fun _=>2) (zhA n m A) A (Nat.le_refl _) h;have hx:∀ p,∃ ab:Nat×Nat,p < n→ab.1 < ab.2∧ab.2 < m∧B p ab.1=true∧B p ab.2=true ∧
    ∀ r,r < m→B p r=true→r=ab.1∨r=ab.2:=by
   intro p
   by_cases hp:p < n
   ·obtain ⟨a,b,g1,g2,g3,g4,g5⟩:=two_of (h2 p hp);exact ⟨(a,b),fun _=>⟨g1,g2,g3,g4,g5⟩⟩
   ·exact ⟨(0,0),fun h=>absurd h hp⟩
  have hD:∃ D:Nat→Nat×Nat,∀ p,p < n→(D p).1 < (D p).2∧(D p).2 < m∧B p (D p).1=true∧B p (D p).2=true ∧
    ∀ r,r < m→B p r=true→r=(D p).1∨r=(D p).2 :=
   ⟨fun p=>Classical.choose (hx p),fun p=>Classical.choose_spec (hx p)⟩
  obtain ⟨D,hD⟩:=hD;refine ⟨D,fun p hp=>(hD p hp).1,fun p hp=>(hD p hp).2.1,fun p hp=>b1 _ _ (hD p hp).2.2.1,
   fun p hp=>b1 _ _ (hD p hp).2.2.2.1,fun r hr=>?_⟩
  refine Nat.le_trans (sm_le fun p hp=>?_) (h3 r hr);show b2 (r == (D p).1 || r == (D p).2)≤b2 (B p r);have h4:=(hD p hp).2.2.1;have h5:=(hD p hp).2.2.2.1
  by_cases e1:r=(D p).1
  ·rw [e1,h4];simp
  ·by_cases e2:r=(D p).2
   ·rw [e2,h5];simp
   ·have t1:(r == (D p).1)=false:=by simp [e1]
    have t2:(r == (D p).2)=false:=by simp [e2]
    simp [t1,t2]
end Hall
namespace Prf
open PySem PySem.Spec PyProof.Rows L2
def agB (hs:List Int) (rs:LI) (xs:List Int):Bool:=decide (zd6 hs rs xs < 2 * (xs.length:Int))
def za6 (hs:List Int) (rs:LI) (p r:Nat):Bool:=!decide ((rs.getD r []).getD 0 0=hs.getD p 0)
def limN (rs:LI) (r:Nat):Nat:=((rs.getD r []).getD 1 0).toNat
theorem zcn (c:Nat→Bool):∀ n,Hall.sm n (fun i=>Hall.b2 (c i))=((List.range n).filter c).length
 | 0=>rfl
 | n+1=>by
   simp only [Hall.sm];rw [zcn c n,range_succ,filter_append,length_append]
   cases h:c n <;> simp [h]
theorem zds (hs r:List Int):∀ (xs:List Int) (n0:Int),n0≤r.getD 1 0 →
  xs.foldl (zbS hs r) n0=min (r.getD 1 0) (n0+((xs.filter fun x=>!decide (r.getD 0 0=hs.getD (x-1).toNat 0)).length:Int))
 | [],n0,h=>by
   show n0=min (r.getD 1 0) (n0+0);omega
 | x::xs,n0,h=>by
   rw [foldl_cons,filter_cons]
   by_cases e:r.getD 0 0=hs.getD (x-1).toNat 0
   ·have e1:zbS hs r n0 x=n0:=by unfold zbS;rw [if_neg (fun z=>z.1 e)]
    rw [e1,zds hs r xs n0 h,decide_eq_true e];simp
   ·rw [decide_eq_false e]
    by_cases hl:n0 < r.getD 1 0
    ·have e1:zbS hs r n0 x=n0+1:=by unfold zbS;rw [if_pos ⟨e,hl⟩]
     rw [e1,zds hs r xs (n0+1) (by omega)];simp only [Bool.not_false,if_true,length_cons];omega
    ·have e1:zbS hs r n0 x=n0:=by unfold zbS;rw [if_neg (fun z=>hl z.2)]
     rw [e1,zds hs r xs n0 h];simp only [Bool.not_false,if_true,length_cons];omega
def zc9 (n:Nat) (S:Nat→Bool):List Int:=((List.range n).filter S).map fun i:Nat=>1+(i:Int)
theorem zhC (n:Nat) (S:Nat→Bool):SetM n (zc9 n S):=by
 unfold zc9;refine ⟨?_,fun x hx=>?_⟩
 ·rw [pairwise_map];refine List.Pairwise.filter _ (List.Pairwise.imp (fun h=>?_) List.pairwise_lt_range);omega
 ·obtain ⟨i,hi,rfl⟩:=mem_map.mp hx;have:=mem_range.mp (mem_filter.mp hi).1;omega
theorem up_ext:∀ {xs ys:List Int},xs.Pairwise (· < ·)→ys.Pairwise (· < ·)→(∀ m,m∈xs↔m∈ys)→xs=ys
 | [],[],_,_,_=>rfl
 | [],y::ys,_,_,h=>absurd ((h y).mpr mem_cons_self) (by simp)
 | x::xs,[],_,_,h=>absurd ((h x).mp mem_cons_self) (by simp)
 | x::xs,y::ys,hx,hy,h=>by
   obtain ⟨x1,x2⟩:=pairwise_cons.mp hx;obtain ⟨y1,y2⟩:=pairwise_cons.mp hy;have e:x=y:=by
    rcases mem_cons.mp ((h x).mp mem_cons_self) with z | z
    ·exact z
    ·rcases mem_cons.mp ((h y).mpr mem_cons_self) with z' | z'
     ·exact z'.symm
     ·have:=y1 x z;have:=x1 y z';omega
   subst e;have nx:x∉xs:=fun z=>absurd (x1 x z) (Int.lt_irrefl _);have ny:x∉ys:=fun z=>absurd (y1 x z) (Int.lt_irrefl _);rw [up_ext x2 y2 fun m=>?_]
   by_cases hm:m=x
   ·subst hm;exact ⟨fun z=>absurd z nx,fun z=>absurd z ny⟩
   ·have:=h m;simpa [hm] using this
theorem zgA {n:Nat} {xs:List Int} (h:SetM n xs):zc9 n (fun i=>decide (1+(i:Int)∈xs))=xs:=by
 refine up_ext (zhC n _).up h.up fun m=>⟨fun z=>?_,fun z=>?_⟩
 ·unfold zc9 at z;obtain ⟨i,hi,rfl⟩:=mem_map.mp z;simpa using (mem_filter.mp hi).2
 ·have hr:=h.rng m z;unfold zc9;refine mem_map.mpr ⟨(m-1).toNat,mem_filter.mpr ⟨mem_range.mpr (by omega),?_⟩,by omega⟩;have e:1+((m-1).toNat:Int)=m:=by omega
  rw [e];simpa using z
theorem zhD (n:Nat) (S:Nat→Bool):(zc9 n S).length=Hall.sm n (fun p=>Hall.b2 (S p)):=by
 unfold zc9;rw [length_map,zcn]
theorem zhE {hs:List Int} {rs:LI} {r:Nat} (h0:0≤(rs.getD r []).getD 1 0) (n:Nat) (S:Nat→Bool) :
  zf8 hs (rs.getD r []) (zc9 n S)=((min (limN rs r) (Hall.deg n (za6 hs rs) S r):Nat):Int):=by
 unfold zf8;rw [zds hs _ _ 0 h0];have e:((zc9 n S).filter fun x=>!decide ((rs.getD r []).getD 0 0=hs.getD (x-1).toNat 0)).length=Hall.deg n (za6 hs rs) S r:=by
  unfold Hall.deg zc9;rw [zcn,filter_map,length_map,List.filter_filter]
  congr 1
  apply List.filter_congr;intro i _;show (_ && _)=_;have e1:(1+(i:Int)-1).toNat=i:=by omega
  simp only [Function.comp,e1];unfold za6;exact Bool.and_comm _ _
 rw [e];unfold limN;omega
theorem zea {hs:List Int} {rs:LI} (h0:∀ i,i < rs.length→0≤(rs.getD i []).getD 1 0) (n:Nat) (S:Nat→Bool) :
  zd6 hs rs (zc9 n S)=((Hall.room n rs.length (limN rs) (za6 hs rs) S:Nat):Int):=by
 have key:∀ i,i≤rs.length→zd6 hs (rs.take i) (zc9 n S)=((Hall.room n i (limN rs) (za6 hs rs) S:Nat):Int):=by
  intro i
  induction i with
  | zero=>intro _;rfl
  | succ i ih =>
    intro hi;rw [zfy _ _ _ _ (by omega),ih (by omega),zhE (h0 i (by omega))];unfold Hall.room;simp only [Hall.sm];omega
 have:=key rs.length (Nat.le_refl _)
 rwa [take_length] at this
theorem zga (n:Nat) (S:Nat→Bool):Hall.need n (fun _=>2) S=2 * (zc9 n S).length:=by
 rw [zhD];unfold Hall.need;have:Hall.sm n (fun p=>if S p=true then 2 else 0)=Hall.sm n (fun p=>Hall.b2 (S p)+Hall.b2 (S p)):=by
  apply Hall.sm_congr;intro i _
  cases S i <;> rfl
 rw [this,Hall.sm_add];omega
theorem zhF {hs:List Int} {rs:LI} (h0:∀ i,i < rs.length→0≤(rs.getD i []).getD 1 0) :
  Hall.Ok hs.length rs.length (limN rs) (fun _=>2) (za6 hs rs)↔∀ xs,SetM hs.length xs→agB hs rs xs=false:=by
 constructor
 ·intro h xs hx;have e:=zgA hx;have h1:=h (fun i=>decide (1+(i:Int)∈xs));have h2:=zea (hs:=hs) h0 hs.length (fun i=>decide (1+(i:Int)∈xs));rw [zga,e] at h1;rw [e] at h2;unfold agB;rw [decide_eq_false];omega
 ·intro h S;have h1:=h _ (zhC hs.length S);unfold agB at h1;have h2:=of_decide_eq_false h1;rw [zea h0] at h2;rw [zga];omega
theorem len2 {l:List Int} (h:l.length=2):l=[l.getD 0 0,l.getD 1 0]:=by
 match l,h with
 | [a,b],_=>rfl
theorem zeq (rows:LI) (x:Int):cntB rows x=Hall.sm rows.length (fun p=>Hall.b2 (decide (x∈rows.getD p []))):=by
 rw [zcn,zeQ]
structure zhG (hs:List Int) (rs rows:LI):Prop where
 len:rows.length=hs.length
 two:∀ k,k < hs.length→(rows.getD k []).length=2
 lo:∀ k,k < hs.length→1≤(rows.getD k []).getD 0 0
 lt:∀ k,k < hs.length→(rows.getD k []).getD 0 0 < (rows.getD k []).getD 1 0
 hi:∀ k,k < hs.length→(rows.getD k []).getD 1 0≤(rs.length:Int)
 a:∀ k,k < hs.length→(rs.getD ((rows.getD k []).getD 0 0-1).toNat []).getD 0 0≠hs.getD k 0
 b:∀ k,k < hs.length→(rs.getD ((rows.getD k []).getD 1 0-1).toNat []).getD 0 0≠hs.getD k 0
 lim:∀ k,k < rs.length→(cntB rows ((k:Int)+1):Int)≤(rs.getD k []).getD 1 0
theorem zbB {rs:LI} {h:Int} {row:List Int}:zdo rs h row=true ↔
  row.length=2∧1≤row.getD 0 0∧row.getD 0 0 < row.getD 1 0∧row.getD 1 0≤(rs.length:Int)∧(rs.getD (row.getD 0 0-1).toNat []).getD 0 0≠h∧(rs.getD (row.getD 1 0-1).toNat []).getD 0 0≠h:=by
 unfold zdo;constructor
 ·intro z;simp only [Bool.and_eq_true,decide_eq_true_eq] at z;obtain ⟨⟨z1,z2⟩,z3⟩:=z;rw [len2 z1] at z2;simp only [all_cons,all_nil,Bool.and_eq_true,decide_eq_true_eq,Bool.not_eq_true',decide_eq_false_iff_not] at z2;obtain ⟨⟨⟨a1,a2⟩,a3⟩,⟨⟨b1,b2⟩,b3⟩,_⟩:=z2;exact ⟨z1,a1,z3,b2,a3,b3⟩
 ·rintro ⟨z1,a1,z3,b2,a3,b3⟩;have e:=len2 z1;generalize row.getD 0 0=x at *;generalize row.getD 1 0=y at *;subst e;simp only [all_cons,all_nil,Bool.and_eq_true,decide_eq_true_eq,Bool.not_eq_true',decide_eq_false_iff_not];refine ⟨⟨rfl,⟨⟨⟨by omega,by omega⟩,a3⟩,⟨⟨by omega,by omega⟩,b3⟩,trivial⟩⟩,z3⟩
theorem zdF {hs:List Int} {rs rows:LI}:zaR hs rs rows=true↔zhG hs rs rows:=by
 unfold zaR;constructor
 ·intro z;simp only [Bool.and_eq_true,decide_eq_true_eq] at z;obtain ⟨⟨z1,z2⟩,z3⟩:=z;have h2:∀ k,k < hs.length→_:=fun k hk=>zbB.mp (all_eq_true.mp z2 k (mem_range.mpr hk));refine ⟨z1,fun k hk=>(h2 k hk).1,fun k hk=>(h2 k hk).2.1,fun k hk=>(h2 k hk).2.2.1,fun k hk=>(h2 k hk).2.2.2.1,fun k hk=>(h2 k hk).2.2.2.2.1,fun k hk=>(h2 k hk).2.2.2.2.2,fun k hk=>?_⟩;have:=all_eq_true.mp z3 k (mem_range.mpr hk);have e:(0:Int)+(k:Int)+1=(k:Int)+1:=by omega
  rw [e] at this;exact of_decide_eq_true this
 ·intro h;simp only [Bool.and_eq_true,decide_eq_true_eq];refine ⟨⟨h.len,zcB fun k hk=>zbB.mpr ⟨h.two k hk,h.lo k hk,h.lt k hk,h.hi k hk,h.a k hk,h.b k hk⟩⟩,zcB fun k hk=>?_⟩;have e:(0:Int)+(k:Int)+1=(k:Int)+1:=by omega
  rw [e];exact decide_eq_true (h.lim k hk)
theorem zgB {hs:List Int} {rs rows:LI} (h:zhG hs rs rows) :
  Hall.Deal hs.length rs.length (limN rs) (za6 hs rs) (fun p=>(((rows.getD p []).getD 0 0-1).toNat,((rows.getD p []).getD 1 0-1).toNat)):=by
 refine ⟨fun p hp=>?_,fun p hp=>?_,fun p hp=>?_,fun p hp=>?_,fun r hr=>?_⟩
 ·have:=h.lo p hp;have:=h.lt p hp;show ((rows.getD p []).getD 0 0-1).toNat < ((rows.getD p []).getD 1 0-1).toNat;omega
 ·have:=h.lo p hp;have:=h.lt p hp;have:=h.hi p hp;show ((rows.getD p []).getD 1 0-1).toNat < rs.length;omega
 ·show za6 hs rs p _=true;unfold za6;rw [decide_eq_false (h.a p hp)];rfl
 ·show za6 hs rs p _=true;unfold za6;rw [decide_eq_false (h.b p hp)];rfl
 ·have h1:=h.lim r hr;rw [zeq,h.len] at h1;have h2:Hall.sm hs.length (fun p=>Hall.b2 (r == ((rows.getD p []).getD 0 0-1).toNat || r == ((rows.getD p []).getD 1 0-1).toNat))=Hall.sm hs.length (fun p=>Hall.b2 (decide ((r:Int)+1∈rows.getD p []))):=by
   apply Hall.sm_congr;intro p hp
   congr 1
   have e:=len2 (h.two p hp);have l1:=h.lo p hp;have l2:=h.lt p hp;generalize (rows.getD p []).getD 0 0=x at *;generalize (rows.getD p []).getD 1 0=y at *;rw [e]
   by_cases e1:(r:Int)+1=x
   ·have:(r == (x-1).toNat)=true:=by simp;omega
    rw [this];simp [e1]
   ·by_cases e2:(r:Int)+1=y
    ·have:(r == (y-1).toNat)=true:=by simp;omega
     rw [this];simp [e2]
    ·have t1:(r == (x-1).toNat)=false:=by simp;omega
     have t2:(r == (y-1).toNat)=false:=by simp;omega
     rw [t1,t2];simp [e1,e2]
  show Hall.sm hs.length (fun p=>Hall.b2 (r == ((rows.getD p []).getD 0 0-1).toNat || r == ((rows.getD p []).getD 1 0-1).toNat))≤_;rw [h2];unfold limN;omega
theorem zgC {hs:List Int} {rs:LI} {D:Nat→Nat×Nat} (h0:∀ i,i < rs.length→0≤(rs.getD i []).getD 1 0)
  (h:Hall.Deal hs.length rs.length (limN rs) (za6 hs rs) D):zhG hs rs ((List.range hs.length).map fun p=>[((D p).1:Int)+1,((D p).2:Int)+1]):=by
 have g:∀ k,k < hs.length→((List.range hs.length).map fun p=>[((D p).1:Int)+1,((D p).2:Int)+1]).getD k []=[((D k).1:Int)+1,((D k).2:Int)+1]:=fun k hk=>zaw hk;refine ⟨by simp,fun k hk=>?_,fun k hk=>?_,fun k hk=>?_,fun k hk=>?_,fun k hk=>?_,fun k hk=>?_,fun k hk=>?_⟩
 ·rw [g k hk];rfl
 ·rw [g k hk];show 1≤((D k).1:Int)+1;omega
 ·rw [g k hk];have:=h.lt k hk;show ((D k).1:Int)+1 < ((D k).2:Int)+1;omega
 ·rw [g k hk];have:=h.hi k hk;show ((D k).2:Int)+1≤_;omega
 ·rw [g k hk];have:=h.a k hk;unfold za6 at this;have e:(((D k).1:Int)+1-1).toNat=(D k).1:=by omega
  show (rs.getD (((D k).1:Int)+1-1).toNat []).getD 0 0≠_;rw [e];simpa using this
 ·rw [g k hk];have:=h.b k hk;unfold za6 at this;have e:(((D k).2:Int)+1-1).toNat=(D k).2:=by omega
  show (rs.getD (((D k).2:Int)+1-1).toNat []).getD 0 0≠_;rw [e];simpa using this
 ·have h1:=h.lim k hk;rw [zeq,length_map,length_range];have h2:Hall.sm hs.length (fun p=>Hall.b2 (decide ((k:Int)+1∈((List.range hs.length).map fun p=>[((D p).1:Int)+1,((D p).2:Int)+1]).getD p [])))=Hall.sm hs.length (fun p=>Hall.b2 (k == (D p).1 || k == (D p).2)):=by
   apply Hall.sm_congr;intro p hp
   congr 1
   rw [g p hp]
   by_cases e1:k=(D p).1
   ·have:(k == (D p).1)=true:=by simp [e1]
    rw [this];simp [← e1]
   ·by_cases e2:k=(D p).2
    ·have:(k == (D p).2)=true:=by simp [e2]
     rw [this];simp [← e2]
    ·have t1:(k == (D p).1)=false:=by simp [e1]
     have t2:(k == (D p).2)=false:=by simp [e2]
     rw [t1,t2];have n1:¬((k:Int)=((D p).1:Int)):=by omega
     have n2:¬((k:Int)=((D p).2:Int)):=by omega
     simp [n1,n2]
  rw [h2];have:=h0 k hk;unfold limN at h1;omega
def nbB:LI→List (List Int)→Bool
 | t::ts,r::rs=>if t.getD 0 0=r.getD 0 0 then (if t.getD 1 0=r.getD 1 0 then nbB ts rs else decide (t.getD 1 0 < r.getD 1 0)) else decide (t.getD 0 0 < r.getD 0 0)
 | _,_=>true
theorem zdG {hs:List Int} {rs:LI} (h0:∀ i,i < rs.length→0≤(rs.getD i []).getD 1 0) :
  (∃ rows,zaR hs rs rows=true)↔∀ xs,SetM hs.length xs→agB hs rs xs=false:=by
 rw [← zhF h0,← Hall.deal_iff];constructor
 ·rintro ⟨rows,h⟩;exact ⟨_,zgB (zdF.mp h)⟩
 ·rintro ⟨D,h⟩;exact ⟨_,zdF.mpr (zgC h0 h)⟩
def za2 (hs:List Int) (rs:LI):Option LI→Prop
 | none=>∀ rows,zaR hs rs rows=false
 | some t=>zaR hs rs t=true∧∀ rows,zaR hs rs rows=true→nbB t rows=true
theorem zdH {α:Type} {xs:List α} {d:α} {i k:Nat} (h:i < k):(xs.take k).getD i d=xs.getD i d:=by
 rw [getD_eq_getElem?_getD,getD_eq_getElem?_getD,List.getElem?_take,if_pos h]
theorem InB.take {hs:List Int} {rs:LI} (B:InB hs rs) (k:Nat):InB hs (rs.take k):=by
 have hl:(rs.take k).length≤rs.length:=by rw [length_take];omega
 have hk:∀ i,i < (rs.take k).length→i < k∧i < rs.length:=fun i hi=>by rw [length_take] at hi;omega
 refine ⟨B.lp,by have:=B.lr;omega,B.hh,fun i hi=>?_,fun i hi=>?_,fun i hi=>?_⟩ <;> rw [zdH (hk i hi).1]
 ·exact B.r2 i (hk i hi).2
 ·exact B.rh i (hk i hi).2
 ·exact B.rl i (hk i hi).2
theorem InB.takeH {hs:List Int} {rs:LI} (B:InB hs rs) (k:Nat):InB (hs.take k) rs:=by
 have hl:(hs.take k).length≤hs.length:=by rw [length_take];omega
 refine ⟨by have:=B.lp;omega,B.lr,fun i hi=>?_,B.r2,B.rh,B.rl⟩;rw [length_take] at hi;rw [zdH (by omega)];exact B.hh i (by omega)
theorem LL.push {K:PySem.W.Frag} {H:Hp} {p q:Addr} {rs:LI} {r:List Int} {ps:List Addr} (e:H p=some (.lst (ps.map V.ref++[.ref q]))) (hl:ps.length=rs.length) (hq:H q=some (.lst (r.map V.int)))
  (hall:∀ i,i < rs.length→H (ps.getD i 0)=some (.lst ((rs.getD i []).map V.int))):LL K H p (rs++[r]):=by
 have e':ps.map V.ref++[.ref q]=(ps++[q]).map V.ref:=by simp
 rw [e'] at e;refine ⟨ps++[q],SqL.of e,by simp [hl],fun i hi=>?_⟩
 by_cases h:i < rs.length
 ·rw [zaF (by omega),zaF h];exact hall i h
 ·have h2:i=rs.length:=by simp only [length_append,length_cons,length_nil] at hi;omega
  subst h2;rw [zaG,← hl,zaG];exact hq
def zeb (x y s:Int):Bool:=decide (x-y≤s∧y-x≤s)
def zco (rs rows:LI):List Int:=(List.range rs.length).map fun k=>(rs.getD k []).getD 1 0-(cntB rows ((k:Int)+1):Int)
end Prf
namespace Prf
open PySem PySem.Spec PyProof.Rows L2
end Prf
namespace L2
open PySem PySem.Spec PyProof.Rows
section
variable {X:Cx} {K:PySem.W.Frag}
def cAll (K:PySem.W.Frag):List V→Hp→VK→Prop:=fun xs H Q=>∃ (a:Addr) (bs:List Bool),xs=[.ref a]∧SqL K H a (bs.map V.bl)∧Q (.bl (bs.all id)) H
theorem all_range (bs:List Bool) (f:Nat→Bool) (h:∀ i,i < bs.length→f i=bs.getD i true):(List.range bs.length).all f=bs.all id:=by
 rw [Bool.eq_iff_iff,all_eq_true,all_eq_true];constructor
 ·intro g x hx;obtain ⟨i,hi,rfl⟩:=getElem_of_mem hx;have:=g i (mem_range.mpr hi);rw [h i hi,getD_eq_getElem?_getD,getElem?_eq_getElem hi] at this;exact this
 ·intro g i hi;have hi':=mem_range.mp hi;rw [h i hi',getD_eq_getElem?_getD,getElem?_eq_getElem hi'];exact g _ (getElem_mem hi')
theorem zhH (hK:X.K=K) (hc:X.calm=true):zel X (.builtin "all") (cAll K):=by
 subst hK;intro pins s σ H xs us Q I r h;obtain ⟨a,bs,rfl,hl,q⟩:=h;obtain ⟨u,rfl,ru⟩:=r.one
 cases ru
 obtain ⟨its,rv,pl,_⟩:=I.list hl;have Ls:=pl.isList;obtain ⟨ol,el,_⟩:=id Ls;have Ll:=Heap.lt_size el;have lb:bs.length=its.length:=by have:=rv.length;rw [length_map] at this;exact this
 refine call_all_walk (wpAny_pyIter_list Ls ⟨_,_,_,_,_,_,fun i=>bs.getD i true,rfl,Walks.list (A:=X.A.in1) (I.ok.hd hc) s.heap.objs.size a (Nat.ne_of_lt Ll) its.toArray,⟨?_,?_⟩,?_,?_⟩)
 ·exact ⟨_,Heap.get?_push_size _ rfl,rfl,rfl⟩
 ·exact Ls.at fun o x=>Heap.get?_push_of_some _ x
 ·intro i v s' Q' E' hv hq;rw [List.getElem?_toArray] at hv;have hi:i < its.length:=(List.getElem?_eq_some_iff.mp hv).1;obtain ⟨u',hu,ru⟩:=rv.get (i:=i) (x:=.bl (bs.getD i true)) (by rw [getElem?_map,getElem?_eq_getElem (by omega),getD_eq_getElem?_getD,getElem?_eq_getElem (by omega)];rfl);have e:v=.bool (bs.getD i true):=by
   rw [hu] at hv;rw [← Option.some.inj hv];exact ru
  subst e;exact wpAny_truthy_bool hq
 ·intro h' tk k;have e:(List.range its.toArray.size).all (fun i=>bs.getD i true)=bs.all id:=by
   rw [size_toArray,← lb];exact all_range bs _ fun i _=>rfl
  rw [e];exact ⟨.bl _,H,I.kept fun b o x=>k b o (by have:=Nat.ne_of_lt (Heap.lt_size x);simpa using this) (Heap.get?_push_of_some _ x),rfl,q⟩
end
section
variable {σ:St} {H:Hp} {Q:VK} {K:PySem.W.Frag} {a:Addr} {ns:List Int} {bs:List Bool}
theorem ziL (h:SqL K H a (bs.map V.bl)) (q:Q (.bl (bs.all id)) H):cAll K [.ref a] H Q:=⟨a,bs,rfl,h,q⟩
end
end L2
namespace L2
open PySem PySem.Spec PyProof.Rows
section
variable {σ:St} {H:Hp} {Q:VK} {K:PySem.W.Frag} {js:List Nat} {te:TE} {tc:TT} {J:It} {n k:Nat} {x y:Nat→V} {g:TG} {w:Nat→St}
def zfz (J:It) (k:Nat) (js:List Nat) (g:TG) (tc:TT) (te:TE) (σ:St) (H:Hp) (Q:VK):Prop:=∀ p,H p=none →
 ∃ W:Nat→Nat→St→Hp→Prop,(∃ m,W 0 m (capS k js σ) (upd H p (.lst [])))∧∀ i m σc H,W i m σc H →
  (J.stop i H∧Q (.ref p) H)∨(J.go i H∧∃ N:St→Hp→Prop,(∀ σ' H',N σ' H'→∃ m',m' < m∧W (i+1) m' σ' H')∧∀ x H',J.yld i H x H' →
   g x σc H' fun σ2 H2=>tc σ2 H2 fun b H3=>if b=true then te σ2 H3 fun v H4=>∃ ys,H4 p=some (.lst ys)∧ys.length < sizeLine∧N σ2 (upd H4 p (.lst (ys++[v]))) else N σ2 H3)
theorem zdt (h:zfz J 1 js (zcg 0) tc te σ H Q):zep J js tc te σ H Q:=h
structure zcz (J:It) (n k:Nat) (js:List Nat) (σ:St) (g:TG) (w:Nat→St) (H:Hp):Prop where
 len:∀ i,(w i).length=k
 go:∀ i H',Same H H'→i < n→J.go i H'
 stop:∀ H',Same H H'→J.stop n H'
 yld:∀ i H' v H2 (u:St) (N:St→Hp→Prop),Same H H'→i < n→u.length=k→J.yld i H' v H2→(∀ H3,Same H' H3→N (w i++capV js σ) H3)→g v (u++capV js σ) H2 N
theorem zcz.one (it:Iter J n x H):zcz J n 1 js σ (zcg 0) (fun i=>[some (x i)]) H where
 len:=fun _=>rfl
 go:=it.go
 stop:=it.stop
 yld:=fun i H' v H2 u N s hi hu hy q=>by
  obtain ⟨rfl,rfl⟩:=it.yld i H' v H2 s hi hy
  match u,hu with
  | [a],_=>exact q _ (Same.refl _)
theorem zeS (T:zcz J n k js σ g w H) (hz:n≤1000) (c:Nat→Bool) (f:Nat→V)
  (ht:∀ i H' Q',i < n→Same H H'→(∀ H2,Same H' H2→Q' (c i) H2)→tc (w i++capV js σ) H' Q')
  (he:∀ i H' Q',i < n→Same H H'→c i=true→(∀ H2,Same H' H2→Q' (f i) H2)→te (w i++capV js σ) H' Q')
  (hq:∀ p H2,H p=none→Same H H2→H2 p=some (.lst (((List.range n).filter c).map f))→Q (.ref p) H2):zfz J k js g tc te σ H Q:=by
 intro p hp;refine ⟨fun i m σc H'=>m=n-i∧i≤n∧(∃ u:St,u.length=k∧σc=u++capV js σ)∧Same H H'∧H' p=some (.lst (((List.range i).filter c).map f)),⟨n,by simp,zero_le _,⟨List.replicate k none,length_replicate,rfl⟩,zaO hp,zao⟩,?_⟩;rintro i m σc H' ⟨rfl,hi,⟨u,hu,rfl⟩,s,hpp⟩;have hlen:(((List.range i).filter c).map f).length≤i:=by
  rw [length_map];exact Nat.le_trans (length_filter_le _ _) (by simp)
 have hsl:n < sizeLine:=zaW hz
 by_cases hlt:i < n
 ·refine .inr ⟨T.go i _ s hlt,fun σ' H'=>(∃ u:St,u.length=k∧σ'=u++capV js σ)∧Same H H'∧H' p=some (.lst (((List.range (i+1)).filter c).map f)),fun σ' H' ⟨h1,h2,h3⟩=>⟨n-(i+1),by omega,rfl,hlt,h1,h2,h3⟩,fun v H2 hy=>?_⟩;have e:(List.range (i+1)).filter c=(List.range i).filter c++if c i=true then [i] else []:=by
   rw [range_succ,filter_append]
   cases hc:c i <;> simp [hc]
  refine T.yld i H' v H2 u _ s hlt hu hy fun H3 s3=>?_;refine ht i _ _ hlt (s.trans s3) fun H4 s4=>?_;have s34:=s3.trans s4
  cases hc:c i with
  | false =>
    rw [if_neg Bool.false_ne_true];refine ⟨⟨w i,T.len i,rfl⟩,s.trans s34,?_⟩;rw [e,hc];simpa using s34 _ _ hpp
  | true =>
    rw [if_pos rfl];refine he i _ _ hlt (s.trans s34) hc fun H5 s5=>?_;refine ⟨_,s5 _ _ (s34 _ _ hpp),by omega,⟨w i,T.len i,rfl⟩,zf7 ((s.trans s34).trans s5) hp,?_⟩;rw [zao,e,hc];simp
 ·have e:i=n:=by omega
  subst e;exact .inl ⟨T.stop _ s,hq p _ hp s hpp⟩
theorem zdI (T:zcz J n k js σ g w H) (hz:n≤1000) (f:Nat→List Int)
  (he:∀ i H' Q',i < n→Same H H'→(∀ q H2,H' q=none→Same H' H2→H2 q=some (.lst ((f i).map V.int))→Q' (.ref q) H2)→te (w i++capV js σ) H' Q')
  (hq:∀ p H2,zaL H p ((List.range n).map f) H2→Q (.ref p) H2):zfz J k js g tTT te σ H Q:=by
 intro p hp;refine ⟨fun i m σc H'=>m=n-i∧i≤n∧(∃ u:St,u.length=k∧σc=u++capV js σ)∧zaL H p ((List.range i).map f) H',⟨n,by simp,zero_le _,⟨List.replicate k none,length_replicate,rfl⟩,zaL.start hp (zaO hp) zao⟩,?_⟩;rintro i m σc H' ⟨rfl,hi,⟨u,hu,rfl⟩,R⟩;have s:=R.same;have hsl:n < sizeLine:=zaW hz
 by_cases hlt:i < n
 ·refine .inr ⟨T.go i _ s hlt,fun σ' H'=>(∃ u:St,u.length=k∧σ'=u++capV js σ)∧zaL H p ((List.range (i+1)).map f) H',fun σ' H' ⟨h1,h2⟩=>⟨n-(i+1),by omega,rfl,hlt,h1,h2⟩,fun v H2 hy=>?_⟩;refine T.yld i H' v H2 u _ s hlt hu hy fun H3 s3=>?_;refine r_tt ?_;rw [if_pos rfl];refine he i _ _ hlt (s.trans s3) fun q H4 f4 s4 e4=>?_;obtain ⟨zs,hzs,hzl⟩:=R.lst;have hzn:zs.length=i:=by rw [hzl];simp
  have hp4:=s4 _ _ (s3 _ _ hzs);refine ⟨zs,hp4,by omega,⟨w i,T.len i,rfl⟩,?_⟩;rw [range_succ,map_append];exact R.push (s3.free f4) (s3.trans s4) e4 hp4 But.upd zao
 ·have e:i=n:=by omega
  subst e;exact .inl ⟨T.stop _ s,hq p _ R⟩
end
end L2
namespace L2
open PySem PySem.Spec PyProof.Rows
section
variable {prog:Program} {w:World} {A:Around} {E:Value→Shared→Prop} {s:Shared}
abbrev kwS (v:Value):List (Str×Value):=[(Str.ofString "start",v)]
theorem zgD (a v:Value):checkTypeCall "enumerate" ⟨[a],kwS v⟩=pure ():=by kernel_rfl
theorem zhI (a v:Value):checkBuiltinCall "enumerate.__new__" ⟨[.type "enumerate",a],kwS v⟩=pure ():=by kernel_rfl
theorem zgE (a b v:Value):argsOk "object.__init__" ⟨[a,b],kwS v⟩:=by unfold argsOk;kernel_rfl
theorem zfA (l:Addr) (items:Array Value) (n:Nat) (dct:Option Addr) (sl:Array (Option Value)) (t:Tok) :
  Meets (Builtin.«enumerate.__new__» ⟨[.type "enumerate",.ref l],kwS (.int 1 t)⟩) (fun _ R s=>s.heap.get? l=some { cls:=.type "list",dict:=dct,data:=.seq items n,slots:=sl } ∧
   R (.ok (.ret (.ref (s.heap.push { cls:=.type "list_iterator",data:=.fields #[.ref l,.int 0 0] }).objs.size)))
    { s with heap:=(s.heap.push { cls:=.type "list_iterator",data:=.fields #[.ref l,.int 0 0] }).push { cls:=.type "enumerate",data:=.fields #[.none,.bool false,.ref s.heap.objs.size,rawInt 1,.none,.none] } }) :=
 .of_wp fun prog w A R s ⟨hl,h⟩=>by
  obtain ⟨hp,g,d,tk,os⟩:=s;have hsub:=sub_enumerate;have hL:Heap.IsList (Shared.heap ⟨hp,g,d,tk,os⟩) l items:=⟨_,hl,rfl,n,rfl⟩
  wp_walk using AutoSeq1.wpAny_loadPart' hl
  refine wpAny_stack_any fun st=>wpAny_pure ?_;split
  ·rename_i c _ _ _ _ _
   cases hcc:(c == Value.type "enumerate")
   ·wp_walk using AutoSeq1.wpAny_loadPart' hl,wpAny_pyIter_list hL
    exact ⟨_,rfl,h⟩
   ·wp_walk using AutoSeq1.wpAny_loadPart' hl,wpAny_pyIter_list hL
    exact ⟨_,rfl,h⟩
  ·wp_walk using AutoSeq1.wpAny_loadPart' hl,wpAny_pyIter_list hL
   exact ⟨_,rfl,h⟩
theorem zfB (self a v:Value):Meets (Builtin.«object.__init__» ⟨[self,a],kwS v⟩) (fun _ R s=>s.TypeIs self "enumerate"∧R (.ok (.ret .none)) s):=by
 refine Meets.of_wp fun prog w A R s hs=>?_;obtain ⟨hT,hq⟩:=hs;have hl:=F.called_enumerate.init.lookup;have hm:=F.called_enumerate.made;have hne:(some "enumerate.__new__" != some "object.__new__")=true:=by decide
 repeat (any_goals (first | (assumption) | wp_step))
 exact ⟨_,rfl,hq⟩
theorem zgF {l:Addr} {items:Array Value} {t:Tok} {Q:Value→Shared→Prop} (hL:s.heap.IsList l items)
  (h:∀ h',IsEnum h' (s.heap.objs.size+1) s.heap.objs.size 1 .none→h'.IsListIter s.heap.objs.size l 0→(∀ b o,s.heap.get? b=some o→h'.get? b=some o)→Q (.ref (s.heap.objs.size+1)) { s with heap:=h' }) :
  wpAny (model prog w) A (call (.type "enumerate") [.ref l] (kwS (.int 1 t))) Q E s:=by
 obtain ⟨⟨c,dct,dt,sl⟩,hl,hc,n,hd⟩:=hL;obtain rfl:c=.type "list":=hc;obtain rfl:dt=.seq items n:=hd;have ft:=F.called_enumerate;obtain ⟨c0,tl,hmro⟩:=ft.mro;have hmade:=ft.made;have hsub:=ft.sub;have hct:=zgD (.ref l) (.int 1 t);refine wpAny_call (codeAny_of_tree ?_);show wpAny _ _ (callAny (.type "enumerate") _) _ _ _;refine wpAny_pure ⟨Code.quiet_builtin _ (by decide +kernel),codeAny_builtin F.entry_type_call ?_⟩;rw [Around.under_plain (weight_type_call_type "enumerate" [.ref l] (kwS (.int 1 t))) (units_type_call_type "enumerate" [.ref l] (kwS (.int 1 t)))];have n1:=ft.notType;have n2:=ft.canCreate
 repeat (any_goals (first | (assumption) | wp_step))
 have hz:(s.heap.push { cls:=.type "list_iterator",data:=.fields #[.ref l,.int 0 0] }).objs.size=s.heap.objs.size+1:=Heap.size_push ..
 let R0:Result→Shared→Prop:=fun r s'=>r=.ok (.ret (.ref (s.heap.objs.size+1)))∧∃ h',s'={ s with heap:=h' }∧IsEnum h' (s.heap.objs.size+1) s.heap.objs.size 1 .none∧h'.IsListIter s.heap.objs.size l 0∧(∀ b o,s.heap.get? b=some o→h'.get? b=some o)
 have key:codeAny (model prog w) A.in1 (Code.call (.builtin "enumerate.__new__") ⟨[.type "enumerate",.ref l],kwS (.int 1 t)⟩) R0 s:=by
  refine codeAny_call_builtin ft.plain F.entry_enumerate_new (wpAny_of_eq (zhI _ _) (zfA l items n dct sl t prog w A.in1 R0 s ⟨hl,?_⟩));rw [hz];refine ⟨rfl,_,rfl,?_,⟨_,Heap.get?_push_of_some _ (Heap.get?_push_size _ rfl),rfl,rfl⟩,fun b o x=>Heap.get?_push_of_some _ (Heap.get?_push_of_some _ x)⟩;have e:=Heap.get?_push_size (s.heap.push { cls:=.type "list_iterator",data:=.fields #[.ref l,.int 0 0] }) (o:={ cls:=.type "enumerate",data:=.fields #[.none,.bool false,.ref s.heap.objs.size,rawInt 1,.none,.none] }) rfl;rw [hz] at e;exact e
 refine codeAny_mono key fun r s1 hr=>?_;obtain ⟨rfl,h',rfl,a1,a2,a3⟩:=hr;have hT:Shared.TypeIs { s with heap:=h' } (.ref (s.heap.objs.size+1)) "enumerate":=⟨_,a1,rfl⟩
 have hli:=ft.init.lookup;have hbi:=ft.init.bind (.ref (s.heap.objs.size+1))
 repeat (any_goals (first | (assumption) | wp_step))
 let R1:Result→Shared→Prop:=fun r s'=>r=.ok (.ret .none)∧s'={ s with heap:=h' }
 have key2:codeAny (model prog w) A.in1 (Code.call (.builtin "object.__init__") ⟨[.ref (s.heap.objs.size+1),.ref l],kwS (.int 1 t)⟩) R1 { s with heap:=h' } :=
  codeAny_call_builtin ft.init.plain F.entry_object_init (ft.init.check _ _ _ _ _ _ _ _ hT (zgE _ _ _) (zfB _ _ _ prog w A.in1 R1 _ ⟨hT,rfl,rfl⟩))
 refine codeAny_mono key2 fun r s2 hr=>?_;obtain ⟨rfl,rfl⟩:=hr
 repeat (any_goals (first | (assumption) | wp_step))
 exact h _ a1 a2 a3
theorem zgG {e it l:Addr} {i:Nat} {c:Int} {xs:Array Value} {x old:Value} {Q:Value→Shared→Prop} (he:IsEnum s.heap e it c old) (hit:s.heap.IsListIter it l i) (hl:s.heap.IsList l xs) (hx:xs[i]? = some x) (ne:e≠it)
  (q:∀ k,IsEnumOut k e it (c+1) x s.heap.objs.size→k.IsListIter it l (i+1)→k.get? s.heap.objs.size=some { cls:=.type "tuple",data:=.seq #[.int c s.toks,x] } →
   (∀ b o,b≠e→b≠it→s.heap.get? b=some o→k.get? b=some o)→Q (.ref s.heap.objs.size) { s with heap:=k,toks:=s.toks+1 }) :
  wpAny (model prog w) A (Builtin.«enumerate.__next__» ⟨[.ref e],[]⟩) (fun fin s'=>∃ v,fin=.done (.ret v)∧Q v s') E s:=by
 obtain ⟨g0,ge,dr,tk,os⟩:=s;have elt:e < g0.objs.size:=Heap.lt_size he;show wpAny _ _ (field (.ref e) 2 >>= _) _ _ _;refine wpAny_bind (wpAny_field he rfl (x:=.ref it) rfl (wpAny_bind (wpAny_nextOf_list_item hit hl hx fun g1 i1 b1=>?_)));replace b1:Heap.SameBut it g0 g1:=b1;have e1:IsEnum g1 e it c old:=(b1.2 e ne).trans he;show wpAny _ _ (field (.ref e) 3 >>= _) _ _ ⟨g1,ge,dr,tk,os⟩;refine wpAny_bind (wpAny_field e1 rfl (x:=rawInt c) rfl ?_);show wpAny _ _ (field (.ref e) 4 >>= _) _ _ ⟨g1,ge,dr,tk,os⟩;refine wpAny_bind (wpAny_field e1 rfl (x:=.none) rfl ?_);show wpAny _ _ (mkInt c >>= _) _ _ ⟨g1,ge,dr,tk,os⟩;refine wpAny_bind (wpAny_mkInt ?_);show wpAny _ _ (setField (.ref e) 3 (rawInt (c+1)) >>= _) _ _ ⟨g1,ge,dr,tk+1,os⟩;refine wpAny_bind (wpAny_setField_rec e1 (by simp) fun g2 e2 b2=>?_);replace b2:Heap.SameBut e g1 g2:=b2;replace e2:IsEnum g2 e it (c+1) old:=e2;show wpAny _ _ (setField (.ref e) 4 .none >>= _) _ _ ⟨g2,ge,dr,tk+1,os⟩;refine wpAny_bind (wpAny_setField_rec e2 (by simp) fun g3 e3 b3=>?_);replace b3:Heap.SameBut e g2 g3:=b3;replace e3:IsEnum g3 e it (c+1) old:=e3;show wpAny _ _ (newTuple [.int c tk,x] >>= _) _ _ ⟨g3,ge,dr,tk+1,os⟩;refine wpAny_bind (wpAny_newTuple ?_);have z3:g3.objs.size=g0.objs.size:=by rw [b3.1,b2.1,b1.1]
 have keep3:∀ b o,b≠e→b≠it→g0.get? b=some o→g3.get? b=some o:=fun b o n1 n2 y=>b3.extBut b o n1 (b2.extBut b o n1 (b1.extBut b o n2 y));have i3:g3.IsListIter it l (i+1):=(i1.extBut b2.extBut ne.symm).extBut b3.extBut ne.symm;have e4:IsEnum (g3.push { cls:=.type "tuple",data:=.seq #[.int c tk,x] }) e it (c+1) old:=Heap.get?_push_of_some _ e3;have t4:(g3.push { cls:=.type "tuple",data:=.seq #[.int c tk,x] }).get? g0.objs.size=some { cls:=.type "tuple",data:=.seq #[.int c tk,x] }:=by rw [← z3];exact Heap.get?_push_size _ rfl
 have keep4:∀ b o,b≠e→b≠it→g0.get? b=some o→(g3.push { cls:=.type "tuple",data:=.seq #[.int c tk,x] }).get? b=some o:=fun b o n1 n2 y=>Heap.get?_push_of_some _ (keep3 b o n1 n2 y);have i4:(g3.push { cls:=.type "tuple",data:=.seq #[.int c tk,x] }).IsListIter it l (i+1):=i3.at fun o y=>Heap.get?_push_of_some _ y;rw [z3];generalize g3.push { cls:=.type "tuple",data:=.seq #[.int c tk,x] }=g4 at e4 t4 keep4 i4;show wpAny _ _ (Builtin.SmallTypes.ownedTupleIsFree (.ref e) >>= _) _ _ ⟨g4,ge,dr,tk+1,os⟩;refine wpAny_bind ?_;unfold Builtin.SmallTypes.ownedTupleIsFree;refine wpAny_bind (wpAny_field e4 rfl (x:=.none) rfl (wpAny_pure ?_));simp only [if_true];refine wpAny_bind (wpAny_rule (wpAny_bind (wpAny_field e4 rfl (x:=old) rfl (wpAny_bind (wpAny_setField_rec e4 (by simp) fun g5 e5 b5=>?_)))));replace b5:Heap.SameBut e g4 g5:=b5;replace e5:IsEnum g5 e it (c+1) x:=e5;show wpAny _ _ (Builtin.SmallTypes.ownedTupleHandOut (.ref e) (.ref g0.objs.size) >>= _) _ _ ⟨g5,ge,dr,tk+1,os⟩;refine wpAny_bind ?_;unfold Builtin.SmallTypes.ownedTupleHandOut;refine wpAny_bind (wpAny_setField_rec e5 (by simp) fun g6 e6 b6=>?_);replace b6:Heap.SameBut e g5 g6:=b6;replace e6:IsEnumOut g6 e it (c+1) x g0.objs.size:=e6;refine wpAny_setField_rec e6 (by simp) fun g7 e7 b7=>?_;replace b7:Heap.SameBut e g6 g7:=b7;have far:∀ b o,b≠e→g4.get? b=some o→g7.get? b=some o:=fun b o n1 y=>b7.extBut b o n1 (b6.extBut b o n1 (b5.extBut b o n1 y));exact wpAny_bind (wpAny_letGo (wpAny_pure ⟨_,rfl,q g7 e7 (i4.at fun o y=>far it o ne.symm y) (far _ _ (Nat.ne_of_gt elt) t4) fun b o n1 n2 y=>far b o n1 (keep4 b o n1 n2 y)⟩))
theorem zgH {e it l:Addr} {i:Nat} {c:Int} {xs:Array Value} {x old:Value} {Q:Option Value→Shared→Prop} (he:IsEnum s.heap e it c old) (hit:s.heap.IsListIter it l i) (hl:s.heap.IsList l xs) (hx:xs[i]? = some x) (ne:e≠it)
  (q:∀ k,IsEnumOut k e it (c+1) x s.heap.objs.size→k.IsListIter it l (i+1)→k.get? s.heap.objs.size=some { cls:=.type "tuple",data:=.seq #[.int c s.toks,x] } →
   (∀ b o,b≠e→b≠it→s.heap.get? b=some o→k.get? b=some o)→Q (some (.ref s.heap.objs.size)) { s with heap:=k,toks:=s.toks+1 }) :
  wpAny (model prog w) A (pyNext (.ref e)) Q E s:=by
 have hT:s.TypeIs (.ref e) "enumerate":=⟨_,he,rfl⟩
 unfold pyNext;refine wpAny_bind (wpAny_attempt (wpAny_callSpecial?_slot (name:=Str.ofString "__next__") hT F.slot_enumerate_next (wpAny_call_entry F.slot_enumerate_next hT F.entry_enumerate_next ?_ (F.args_enumerate_next_1 _))));exact zgG he hit hl hx ne fun k a b d f=>wpAny_pure (q k a b d f)
theorem zhJ {e it l:Addr} {i:Nat} {c:Int} {xs:Array Value} {old:Value} {Q:Option Value→Shared→Prop} (hh:A.handled=none) (he:IsEnum s.heap e it c old) (hit:s.heap.IsListIter it l i) (hl:s.heap.IsList l xs) (hx:xs[i]? = none)
  (q:∀ k,Heap.ExtBut it s.heap k→Q none { s with heap:=k }):wpAny (model prog w) A (pyNext (.ref e)) Q E s:=by
 have hT:s.TypeIs (.ref e) "enumerate":=⟨_,he,rfl⟩
 unfold pyNext;refine wpAny_bind (wpAny_attempt (wpAny_callSpecial?_slot (name:=Str.ofString "__next__") hT F.slot_enumerate_next (wpAny_call_entry F.slot_enumerate_next hT F.entry_enumerate_next ?_ (F.args_enumerate_next_1 _))));show wpAny _ _ (field (.ref e) 2 >>= _) _ _ _;refine wpAny_bind (wpAny_field he rfl (x:=.ref it) rfl (wpAny_bind (wpAny_nextOf_list_end hh hit hl hx fun k y hk hy=>?_)));obtain ⟨o,ho,hc⟩:=hy;exact wpAny_bind (wpAny_isInstance (T:="StopIteration") (b:=true) ⟨o,ho,hc⟩ isSubtype_stop (wpAny_pure (q _ hk)))
theorem zer {M:Model} {env:Env} {pos:Pos} {T:String} {e:Expr} {rest:List Expr} {kws:List Keyword} {Q:Value→Shared→Prop}
  (h:wpAny M A (spliced (backTo pos (starEach (e::rest) env))) (fun vs s1=>wpAny M A (evalAll ((backToKw pos (keywordEach kws env)).map (·.2)))
   (fun ks s2=>wpAny M A (call (.type T) vs (((backToKw pos (keywordEach kws env)).filterMap (·.1)).zip ks)) Q E s2) E s1) E s)
  (he:backTo pos (starEach (e::rest) env)=(false,eval e env)::backTo pos (starEach rest env)) (hp:(backTo pos (starEach (e::rest) env)).any (·.1)=false)
  (ha:(backToKw pos (keywordEach kws env)).all (·.1.isSome)=true) (hk:(backToKw pos (keywordEach kws env)).any (·.1.isNone)=false) :
  wpAny M A (callWith pos (.type T) [] (backTo pos (starEach (e::rest) env)) (backToKw pos (keywordEach kws env))) Q E s:=by
 have h2:wpAny M A (evalArgs (.type T) true (backTo pos (starEach (e::rest) env)) (backToKw pos (keywordEach kws env))) (fun a s1=>wpAny M A (call (.type T) ([]++a.pos) a.kw) Q E s1) E s:=by
  rw [he] at h ⊢;exact evalArgs_kwB ha h
 unfold callWith;refine wpAny_bind (wpAny_holding (wpAny_mono h2 (fun a s1 h1=>wpAny_bind (wpAny_standAt ?_)) fun _ _ z=>z));simp only [hp,hk,Bool.or_false];exact wpAny_bind (wpAny_pure (wpAny_bind (wpAny_mono h1 (fun r s2 hr=>wpAny_bind (wpAny_holding (wpAny_point (wpAny_pure hr)))) fun _ _ z=>z)))
end
def Ite (K:PySem.W.Frag) (a:Addr) (c:Int):It :=
 ⟨fun i H=>∃ xs x,SqL K H a xs∧xs[i]? = some x,
  fun i H v H'=>∃ T,H T=none∧v=.ref T∧∀ xs,SqL K H a xs→∃ x,xs[i]? = some x∧H'=upd H T (.tup [.int (c+i),x]),
  fun i H=>∃ xs,SqL K H a xs∧xs.length≤i⟩
theorem zeT {P:Program} {w:World} {K:PySem.W.Frag} {elts:List Expr} {x1:Nat} {tpos:Pos} {l z I:Addr} {c:Int} (hzI:z≠I) (hlz:l≠z) (hlI:l≠I) :
  Turn P w K (.Tuple elts x1 tpos) (Ite K l c) [z,I] z (fun i h=>(∃ old,IsEnum h z I (c+i) old)∧h.IsListIter I l i) where
 mem:=by simp
 obj:=fun i h st b hb=>by
  obtain ⟨⟨old,h1⟩,o2,h2,c2,d2⟩:=st;simp only [mem_cons,not_mem_nil,or_false] at hb;rcases hb with rfl | rfl
  ·exact ⟨_,h1,fun v y=>by cases y⟩
  ·exact ⟨_,h2,fun v y=>by rw [d2] at y;cases y⟩
 keep:=fun i h h' st k=>by
  obtain ⟨⟨old,h1⟩,h2⟩:=st;exact ⟨⟨old,k z (by simp) _ h1⟩,h2.at fun o e=>k I (by simp) o e⟩
 item:=by
  intro X hP hw hK hc i pins s σ H E Iv hf st hg;subst hP hw hK;obtain ⟨xs,x,hq,hx⟩:=hg;obtain ⟨its,rv,p1,_⟩:=Iv.list hq;obtain ⟨u,hu,ru⟩:=rv.get hx;obtain ⟨⟨old,g1⟩,g2⟩:=st;have hI:I < s.heap.objs.size:=by obtain ⟨_,y,_⟩:=g2;exact Heap.lt_size y
  have hz:z < s.heap.objs.size:=Heap.lt_size g1;refine zgH g1 g2 p1.isList (x:=u) (by simpa using hu) hzI fun k a1 a2 a3 a4=>⟨_,rfl,?_⟩
  refine wpAny_letOwnedTupleGo_enum a1 fun k2 b1 b2=>?_;replace b2:Heap.SameBut z k k2:=b2;have hTn:H s.heap.objs.size=none:=Iv.hok.fresh (Nat.le_refl _);have keep:∀ b ob,b∉[z,I]→s.heap.get? b=some ob→k2.get? b=some ob:=fun b ob hb e=>by
   simp only [mem_cons,not_mem_nil,or_false,not_or] at hb;exact b2.extBut b ob hb.1 (a4 b ob hb.1 hb.2 e)
  have ei:c+(i:Int)+1=c+((i+1:Nat):Int):=by rw [Int.natCast_add];omega
  have c2:k2.IsListIter I l (i+1):=a2.extBut b2.extBut hzI.symm;refine ⟨.ref s.heap.objs.size,upd H s.heap.objs.size (.tup [.int (c+i),x]),?_,rfl,⟨_,hTn,rfl,fun xs' q'=>?_⟩,⟨⟨_,by rw [← ei];exact b1⟩,c2⟩,fun b hb=>?_⟩
  ·refine Iv.turnedNew (t':=s.toks+1) (ch:=[z,I]) keep (fun b hb=>⟨hf b hb,?_⟩) (Nat.le_refl _) ?_
   ·simp only [mem_cons,not_mem_nil,or_false] at hb;rcases hb with rfl | rfl
    ·exact ⟨_,b1⟩
    ·obtain ⟨o,e,_⟩:=c2;exact ⟨_,e⟩
   ·exact ⟨by show 2≤sizeLine;rw [sizeLine_eq];decide,[.int (c+i) s.toks,u],.cons ⟨_,rfl⟩ (.cons ru .nil),_,b2.extBut _ _ (Nat.ne_of_gt hz) a3,rfl,_,rfl⟩
  ·rw [Iv.list_inj q' hq];exact ⟨x,hx,rfl⟩
  ·have:b≠s.heap.objs.size:=by
    simp only [mem_cons,not_mem_nil,or_false] at hb;rcases hb with rfl | rfl
    ·exact Nat.ne_of_lt hz
    ·exact Nat.ne_of_lt hI
   rw [zav this];exact (hf b hb).1
 done:=by
  intro X hP hw hK hc i pins s σ H E Iv hf st hg;subst hP hw hK;obtain ⟨xs,hq,hx⟩:=hg;obtain ⟨its,rv,p1,_⟩:=Iv.list hq;obtain ⟨⟨old,g1⟩,g2⟩:=st;have hl1:=rv.length;refine zhJ (Iv.ok.hd hc) g1 g2 p1.isList (Array.getElem?_eq_none (by simp;omega)) fun k hk=>⟨rfl,Iv.turnedL (t':=s.toks) (ch:=[z,I]) (fun b ob hb e=>?_) hf⟩
  simp only [mem_cons,not_mem_nil,or_false,not_or] at hb;exact hk b ob hb.2 e
 self:=fun _ _ _ _ _ ⟨⟨_,st⟩,_⟩ h=>wpAny_pyIter_enum st h
section
variable {X:Cx} {K:PySem.W.Frag}
def ziM (K:PySem.W.Frag) (c:Int) (ta:TA):TI:=fun σ H R=>ta σ H fun vs H1=>∃ a xs,vs=[.ref a]∧SqL K H1 a xs∧R (Ite K a c) H1
theorem zhK {pins:List (Addr×Obj)} {σ:St} {H:Hp} {s:Shared} {h':Heap} (I:Inv X pins σ H s) (b:Addr) (hb:b∈[s.heap.objs.size+1,s.heap.objs.size]):FpOk X pins H b:=by
 have hge:s.heap.objs.size≤b:=by
  simp only [mem_cons,not_mem_nil,or_false] at hb;rcases hb with rfl | rfl
  ·exact le_succ _
  ·exact Nat.le_refl _
 exact I.fpOk hge (I.hok.fresh hge)
theorem ziN {a:Expr} {ta:TA} {p pos tpos:Pos} {elts:List Expr} {x1:Nat} (hK:X.K=K) (hg:Gl X "enumerate") (hm:X.mg "enumerate"=none) (ha:PA X [a] ta) (hs:starEach [a] X.env=(false,eval a X.env)::starEach [] X.env:=by rfl)
  (hs2:(backTo pos (starEach [] X.env)).any (·.1)=false:=by rfl):PI X (.Tuple elts x1 tpos) (.Call (.Name "enumerate" p) [a] [] pos) (ziM K 0 ta):=by
 subst hK;intro pins s σ H R I h;refine Call_ (zdv I hg hm boot_enumerate (PyProof.Rows.callWith_type1 (thn (ha pos pins s σ H _ I h) fun us s1 ⟨vs,H1,I1,r1,q1⟩=>?_) hs hs2));obtain ⟨l,xs,e,q1,q⟩:=q1;subst e;obtain ⟨v1,rfl,ru⟩:=r1.one
 cases ru
 obtain ⟨its,rv,p1,_⟩:=I1.list q1;obtain ⟨o1,e1,_⟩:=p1.isList;have L1:=Heap.lt_size e1;refine call_enumerate_list p1.isList fun k a1 a2 _ a4=>?_;refine wpAny_pyIter_enum a1 ?_;have I2:Inv X pins σ H1 { s1 with heap:=k }:=I1.kept (t':=s1.toks) a4;exact ⟨s1.heap.objs.size+1,_,_,Ite X.K l 0,H1,rfl,I2,zeT (Nat.succ_ne_self _) (Nat.ne_of_lt (lt_succ_of_lt L1)) (Nat.ne_of_lt L1),⟨⟨_,a1⟩,a2⟩,zhK (h':=k) I1,q⟩
theorem ziO {a:Expr} {ta:TA} {p pos tpos kpos cpos:Pos} {ci:Nat} {elts:List Expr} {x1:Nat} (hK:X.K=K) (hg:Gl X "enumerate") (hm:X.mg "enumerate"=none) (ha:PA X [a] ta)
  (hb:bootBuiltins "enumerate"=some (.type "enumerate"):=by rfl)
  (he:backTo pos (starEach [a] X.env)=(false,eval a X.env)::backTo pos (starEach [] X.env):=by rfl) (hpl:(backTo pos (starEach [a] X.env)).any (·.1)=false:=by rfl) :
  PI X (.Tuple elts x1 tpos) (.Call (.Name "enumerate" p) [a] [⟨some "start",.Constant (.int 1) ci cpos,kpos⟩] pos) (ziM K 1 ta):=by
 subst hK;intro pins s σ H R I h;refine wpAny_Call_Name_kw (zdv I hg hm hb ?_ (by decide) (by decide));refine zer (thn (ha pos pins s σ H _ I h) fun us s1 ⟨vs,H1,I1,r1,q1⟩=>thn ((zjE zab pk_nil) pos pins s1 σ H1 (fun zs H2=>zs=[.int 1]∧H2=H1) I1 ⟨rfl,rfl⟩) fun ws s2 ⟨zs,H2,I2,r2,q2⟩=>?_) he hpl rfl rfl;obtain ⟨rfl,rfl⟩:=q2;obtain ⟨l,xs,e,q1,q⟩:=q1;subst e;obtain ⟨v1,rfl,ru⟩:=r1.one
 cases ru
 obtain ⟨v2,rfl,tt,rfl⟩:=r2.one;obtain ⟨its,rv,p1,_⟩:=I2.list q1;obtain ⟨o1,e1,_⟩:=p1.isList;have L1:=Heap.lt_size e1;refine zgF p1.isList fun k a1 a2 a4=>?_;refine wpAny_pyIter_enum a1 ?_;have I3:Inv X pins σ H2 { s2 with heap:=k }:=I2.kept (t':=s2.toks) a4;exact ⟨s2.heap.objs.size+1,_,_,Ite X.K l 1,H2,rfl,I3,zeT (Nat.succ_ne_self _) (Nat.ne_of_lt (lt_succ_of_lt L1)) (Nat.ne_of_lt L1),⟨⟨_,a1⟩,a2⟩,zhK (h':=k) I2,q⟩
end
section
variable {σ:St} {H:Hp} {D:Ends} {nx bk ct:St→Hp→Prop} {rt:VK} {K:PySem.W.Frag} {Q:VK} {js:List Nat} {te:TE} {tc:TT} {c:Int} {a b:Addr} {xs ys:List V}
theorem zkZ {tl:TA} {g:TG} {tb:TS} (h:tl σ H fun vs H1=>∃ a xs,vs=[.ref a]∧SqL K H1 a xs∧ForI (Ite K a c) g tb D σ H1):tFor (ziM K c tl) g tb D σ H:=h
theorem zj1 {tl:TA} {k:Nat} {g:TG} (h:tl σ H fun vs H1=>∃ a xs,vs=[.ref a]∧SqL K H1 a xs∧zfz (Ite K a c) k js g tc te σ H1 Q):zfu (ziM K c tl) k js g tc te σ H Q:=h
theorem zj2 {tl:TA} {k:Nat} {g:TG} (h:tl σ H fun vs H1=>∃ a b xs ys,vs=[.ref a,.ref b]∧SqL K H1 a xs∧SqL K H1 b ys∧zfz (Itz K a b) k js g tc te σ H1 Q):zfu (iZip K tl) k js g tc te σ H Q:=h
theorem zgb {P:Addr→Prop} (h:SqL K H a xs) (q:P a):∃ b xs,[V.ref a]=[.ref b]∧SqL K H b xs∧P b:=⟨a,xs,rfl,h,q⟩
theorem zj3 {i j:Nat} {tb:TS} (Pv:Nat→St→Hp→Prop) (h0:Pv 0 σ H) (hl:∀ i σ H,i≤xs.length→Pv i σ H→SqL K H a xs)
  (hs:∀ k x σ H H' ,xs[k]? = some x→Pv k σ H→Same H H'→tb ⟨Pv (k+1),rt,nx,Pv (k+1)⟩ ((σ.set i (some (.int (c+k)))).set j (some x)) H') (hd:∀ σ H,Pv xs.length σ H→nx σ H) :
  ForI (Ite K a c) (gTup K 2 (zfp (zcg i) (zfp (zcg j) gNil))) tb ⟨nx,rt,bk,ct⟩ σ H:=by
 refine ⟨fun i m σ H=>m=xs.length-i∧i≤xs.length∧Pv i σ H,⟨xs.length,by simp,zero_le _,h0⟩,?_⟩;rintro k m σ H ⟨rfl,hi,p⟩;have q1:=hl k σ H hi p
 by_cases hlt:k < xs.length
 ·refine .inr ⟨⟨xs,xs[k],q1,by simp [hlt]⟩,Pv (k+1),fun σ' H' p'=>⟨xs.length-(k+1),by omega,rfl,hlt,p'⟩,fun v H' yy=>?_⟩;obtain ⟨T,hT,rfl,yy⟩:=yy;obtain ⟨x,hx,rfl⟩:=yy xs q1;exact ⟨T,[.int (c+k),x],rfl,SqT.of zao,rfl,.int (c+k),[x],rfl,x,[],rfl,rfl,hs k x σ H _ hx p (zaO hT)⟩
 ·have e:k=xs.length:=by omega
  subst e;exact .inl ⟨⟨xs,q1,Nat.le_refl _⟩,hd σ H p⟩
theorem zcz.enum (h:SqL K H a xs):zcz (Ite K a c) xs.length 2 js σ (gTup K 2 (zfp (zcg 0) (zfp (zcg 1) gNil))) (fun i=>[some (.int (c+i)),some (xs.getD i .non)]) H where
 len:=fun _=>rfl
 go:=fun i H' s hi=>⟨xs,xs[i],s.seq h,by simp [hi]⟩
 stop:=fun H' s=>⟨xs,s.seq h,Nat.le_refl _⟩
 yld:=fun i H' v H2 u N s hi hu hy q=>by
  obtain ⟨T,hT,rfl,yy⟩:=hy;obtain ⟨x,hx,rfl⟩:=yy xs (s.seq h);have ex:xs.getD i .non=x:=by rw [getD_eq_getElem?_getD,hx];rfl
  match u,hu with
  | [u1,u2],_ =>
    refine ⟨T,[.int (c+i),x],rfl,SqT.of zao,rfl,.int (c+i),[x],rfl,x,[],rfl,rfl,?_⟩;have:=q _ (zaO (o:=.tup [.int (c+i),x]) hT);rw [ex] at this;exact this
theorem zcz.zip (h:SqL K H a xs) (h2:SqL K H b ys) (hl:xs.length=ys.length):zcz (Itz K a b) xs.length 2 js σ (gTup K 2 (zfp (zcg 0) (zfp (zcg 1) gNil))) (fun i=>[some (xs.getD i .non),some (ys.getD i .non)]) H where
 len:=fun _=>rfl
 go:=fun i H' s hi=>⟨xs,ys,xs[i],ys[i],s.seq h,s.seq h2,by simp [hi],by simp [hl▸hi]⟩
 stop:=fun H' s=>⟨xs,ys,s.seq h,s.seq h2,.inl (Nat.le_refl _)⟩
 yld:=fun i H' v H2 u N s hi hu hy q=>by
  obtain ⟨T,hT,rfl,yy⟩:=hy;obtain ⟨x,y,hx,hy,rfl⟩:=yy xs ys (s.seq h) (s.seq h2);have ex:xs.getD i .non=x:=by rw [getD_eq_getElem?_getD,hx];rfl
  have ey:ys.getD i .non=y:=by rw [getD_eq_getElem?_getD,hy];rfl
  match u,hu with
  | [u1,u2],_ =>
    refine ⟨T,[x,y],rfl,SqT.of zao,rfl,x,[y],rfl,y,[],rfl,rfl,?_⟩;have:=q _ (zaO (o:=.tup [x,y]) hT);rw [ex,ey] at this;exact this
end
end L2
namespace Prf
open PySem PySem.Spec PyProof.Rows L2
def b1 (b:Bool):Nat:=if b then 1 else 0
theorem cnt_cons (r:List Int) (rows:LI) (x:Int):cntB (r::rows) x=b1 (decide (x∈r))+cntB rows x:=by
 unfold cntB b1;rw [filter_cons]
 cases decide (x∈r) <;> simp <;> omega
theorem zfC (x:Int) (row:List Int):∀ (gv:LI) (p:Nat),p < gv.length→cntB (gv.set p row) x+b1 (decide (x∈gv.getD p []))=cntB gv x+b1 (decide (x∈row))
 | g::gv,0,_=>by
   rw [List.set_cons_zero,cnt_cons,cnt_cons];show _+b1 (decide (x∈g))=_;omega
 | g::gv,p+1,h=>by
   rw [List.set_cons_succ,cnt_cons,cnt_cons];have:=zfC x row gv p (by simpa using h);show _+b1 (decide (x∈gv.getD p []))=_;omega
theorem za5 {α:Type} {xs:List α} {d v:α} {i j:Nat} (h:i < xs.length):(xs.set i v).getD j d=if j=i then v else xs.getD j d:=by
 rw [getD_eq_getElem?_getD,List.getElem?_set,getD_eq_getElem?_getD]
 by_cases e:j=i
 ·subst e;simp [h]
 ·simp [e,Ne.symm e]
structure Vld (al gv:LI) (lim sp:List Int) (o:Int):Prop where
 lg:gv.length=al.length
 ls:sp.length=lim.length
 nd:∀ q,q < gv.length→(gv.getD q []).Nodup
 sub:∀ q,q < gv.length→∀ r∈gv.getD q [],r∈al.getD q []
 ar:∀ q,q < al.length→∀ r∈al.getD q [],1≤r∧r≤lim.length
 s0:∀ r:Nat,r < lim.length→0≤sp.getD r 0
 eq:∀ r:Nat,r < lim.length→sp.getD r 0+(cntB gv ((r:Int)+1):Int)+(if (r:Int)+1=o then 1 else 0)=lim.getD r 0
theorem Vld.take {al gv:LI} {lim sp:List Int} {r:Int} (V:Vld al gv lim sp 0) (r1:1≤r) (r2:r≤lim.length) (h:0 < sp.getD (r-1).toNat 0):Vld al gv lim (sp.set (r-1).toNat (sp.getD (r-1).toNat 0-1)) r:=by
 have hi:(r-1).toNat < sp.length:=by have:=V.ls;omega
 refine ⟨V.lg,by rw [length_set];exact V.ls,V.nd,V.sub,V.ar,fun k hk=>?_,fun k hk=>?_⟩
 ·rw [za5 hi];split
  ·omega
  ·exact V.s0 k hk
 ·have e:=V.eq k hk;rw [if_neg (by omega)] at e;rw [za5 hi]
  by_cases ek:k=(r-1).toNat
  ·rw [if_pos ek,if_pos (by omega)];subst ek;omega
  ·rw [if_neg ek,if_neg (by omega)];exact e
theorem Vld.push {al gv:LI} {lim sp:List Int} {r:Int} {p:Nat} (V:Vld al gv lim sp r) (hp:p < gv.length) (hr:r∈al.getD p []) (hn:r∉gv.getD p []):Vld al (gv.set p (gv.getD p []++[r])) lim sp 0:=by
 refine ⟨by rw [length_set];exact V.lg,V.ls,fun q hq=>?_,fun q hq=>?_,V.ar,V.s0,fun k hk=>?_⟩
 ·rw [length_set] at hq;rw [za5 hp];split
  ·refine nodup_append.mpr ⟨V.nd p hp,by simp,fun a ha b hb=>?_⟩;have:b=r:=by simpa using hb
   subst this;intro e;subst e;exact hn ha
  ·exact V.nd q hq
 ·rw [length_set] at hq;rw [za5 hp];split
  ·rename_i e
   subst e;intro x hx;rcases mem_append.mp hx with h | h
   ·exact V.sub q hp x h
   ·have:x=r:=by simpa using h
    subst this;exact hr
  ·exact V.sub q hq
 ·have e:=V.eq k hk;have c:=zfC ((k:Int)+1) (gv.getD p []++[r]) gv p hp;have l:=V.lg;have hrr:=V.ar p (by omega) r hr;rw [if_neg (show ¬(k:Int)+1=0 by omega)]
  by_cases ek:(k:Int)+1=r
  ·rw [if_pos ek] at e;rw [ek] at c e ⊢;have d1:decide (r∈gv.getD p [])=false:=decide_eq_false hn;have d2:decide (r∈gv.getD p []++[r])=true:=decide_eq_true (by simp);rw [d1,d2] at c;have c2:cntB (gv.set p (gv.getD p []++[r])) r+0=cntB gv r+1:=c;omega
  ·rw [if_neg ek] at e;have d:decide ((k:Int)+1∈gv.getD p []++[r])=decide ((k:Int)+1∈gv.getD p []):=by
    rw [decide_eq_decide];simp [ek]
   rw [d] at c;omega
theorem Vld.drop {al gv:LI} {lim sp:List Int} {r:Int} {p:Nat} (V:Vld al gv lim sp 0) (hp:p < gv.length) (hr:r∈gv.getD p []):Vld al (gv.set p ((gv.getD p []).erase r)) lim sp r:=by
 have ndp:=V.nd p hp;refine ⟨by rw [length_set];exact V.lg,V.ls,fun q hq=>?_,fun q hq=>?_,V.ar,V.s0,fun k hk=>?_⟩
 ·rw [length_set] at hq;rw [za5 hp];split
  ·exact ndp.erase r
  ·exact V.nd q hq
 ·rw [length_set] at hq;rw [za5 hp];split
  ·rename_i e
   subst e;intro x hx;exact V.sub q hp x (List.mem_of_mem_erase hx)
  ·exact V.sub q hq
 ·have e:=V.eq k hk;have c:=zfC ((k:Int)+1) ((gv.getD p []).erase r) gv p hp;rw [if_neg (show ¬(k:Int)+1=0 by omega)] at e
  by_cases ek:(k:Int)+1=r
  ·rw [if_pos ek];rw [ek] at c e ⊢;have d1:decide (r∈gv.getD p [])=true:=decide_eq_true hr;have d2:decide (r∈(gv.getD p []).erase r)=false:=decide_eq_false (by rw [ndp.mem_erase_iff];simp);rw [d1,d2] at c;have c2:cntB (gv.set p ((gv.getD p []).erase r)) r+1=cntB gv r+0:=c;omega
  ·rw [if_neg ek];have d:decide ((k:Int)+1∈(gv.getD p []).erase r)=decide ((k:Int)+1∈gv.getD p []):=by
    rw [decide_eq_decide,ndp.mem_erase_iff];simp [ek]
   rw [d] at c;omega
def Cov (al gv:LI) (ks:List Int) (q:Nat):Prop:=∀ r∈al.getD q [],r∈ks∨r∈gv.getD q []
theorem Cov.mono {al gv:LI} {ks ls:List Int} {q:Nat} (h:Cov al gv ks q) (s:∀ r∈ks,r∈ls):Cov al gv ls q:=fun r hr=>(h r hr).elim (fun z=>.inl (s r z)) .inr
def Cls2 (al gv:LI) (sp ks ls:List Int):Prop:=(∀ r∈ks,r∈ls)∧∀ r∈ls,r∉ks→sp.getD (r-1).toNat 0=0∧∀ q,q < gv.length→r∈gv.getD q []→Cov al gv ls q
theorem Cls2.refl {al gv:LI} {sp ks:List Int}:Cls2 al gv sp ks ks:=⟨fun _ h=>h,fun r h n=>absurd h n⟩
theorem Cls2.trans {al gv:LI} {sp ks ls ms:List Int} (a:Cls2 al gv sp ks ls) (b:Cls2 al gv sp ls ms):Cls2 al gv sp ks ms:=by
 refine ⟨fun r h=>b.1 r (a.1 r h),fun r h n=>?_⟩
 by_cases hl:r∈ls
 ·obtain ⟨h1,h2⟩:=a.2 r hl n;exact ⟨h1,fun q hq hr=>(h2 q hq hr).mono b.1⟩
 ·exact b.2 r h hl
theorem Cls2.one {al gv:LI} {sp ks ls:List Int} {x:Int} (b:Cls2 al gv sp (ks++[x]) ls) (h0:sp.getD (x-1).toNat 0=0) (h1:∀ q,q < gv.length→x∈gv.getD q []→Cov al gv ls q):Cls2 al gv sp ks ls:=by
 refine ⟨fun r h=>b.1 r (by simp [h]),fun r h n=>?_⟩
 by_cases e:r=x
 ·subst e;exact ⟨h0,h1⟩
 ·exact b.2 r h (by simp [n,e])
structure Fnd (al gv gv':LI) (lim sp' ks:List Int) (p:Nat):Prop where
 v:Vld al gv' lim sp' 0
 lg:gv'.length=gv.length
 len:∀ q,q < gv.length→(gv'.getD q []).length=(gv.getD q []).length+if q=p then 1 else 0
 old:∀ r∈ks,∀ q,q < gv.length→(r∈gv'.getD q []↔r∈gv.getD q [])
structure Fre (al gv gv':LI) (lim sp' ks:List Int) (x:Int):Prop where
 v:Vld al gv' lim sp' x
 lg:gv'.length=gv.length
 len:∀ q,q < gv.length→(gv'.getD q []).length=(gv.getD q []).length
 old:∀ r∈ks,r≠x→∀ q,q < gv.length→(r∈gv'.getD q []↔r∈gv.getD q [])
 own:∀ q,q < gv.length→x∈gv'.getD q []→x∈gv.getD q []
theorem Fre.found {al gv gv':LI} {lim sp' ks:List Int} {x:Int} {p:Nat} (F:Fre al gv gv' lim sp' (ks++[x]) x) (hp:p < gv.length) (hx:x∈al.getD p []) (hn:x∉gv.getD p []) (hk:x∉ks) :
  Fnd al gv (gv'.set p (gv'.getD p []++[x])) lim sp' ks p:=by
 have l:=F.lg;have hp':p < gv'.length:=by omega
 refine ⟨F.v.push hp' hx (fun z=>hn (F.own p hp z)),by rw [length_set];exact l,fun q hq=>?_,fun r hr q hq=>?_⟩
 ·have:=F.len q hq;rw [za5 hp']
  by_cases e:q=p
  ·subst e;rw [if_pos rfl,if_pos rfl,length_append,length_singleton];omega
  ·rw [if_neg e,if_neg e];omega
 ·have hne:r≠x:=fun e=>hk (e▸hr);have:=F.old r (by simp [hr]) hne q hq;rw [za5 hp']
  by_cases e:q=p
  ·subst e;rw [if_pos rfl,mem_append,this];simp [hne]
  ·rw [if_neg e];exact this
theorem Fnd.freed {al gv gv':LI} {lim sp' ks:List Int} {x:Int} {p:Nat} (F:Fnd al gv gv' lim sp' ks p) (hp:p < gv.length) (hx:x∈gv.getD p []) (hk:x∈ks) :
  x∈gv'.getD p []∧Fre al gv (gv'.set p ((gv'.getD p []).erase x)) lim sp' ks x:=by
 have l:=F.lg;have hp':p < gv'.length:=by omega
 have hx':x∈gv'.getD p []:=(F.old x hk p hp).mpr hx;have ndp:=F.v.nd p hp';refine ⟨hx',F.v.drop hp' hx',by rw [length_set];exact l,fun q hq=>?_,fun r hr hne q hq=>?_,fun q hq hq2=>?_⟩
 ·have:=F.len q hq;rw [za5 hp']
  by_cases e:q=p
  ·subst e;rw [if_pos rfl,List.length_erase_of_mem hx'];rw [if_pos rfl] at this;omega
  ·rw [if_neg e];rw [if_neg e] at this;omega
 ·have:=F.old r hr q hq;rw [za5 hp']
  by_cases e:q=p
  ·subst e;rw [if_pos rfl,ndp.mem_erase_iff,this];simp [hne]
  ·rw [if_neg e];exact this
 ·rw [za5 hp'] at hq2
  by_cases e:q=p
  ·subst e;exact hx
  ·rw [if_neg e] at hq2;exact (F.old x hk q hq).mp hq2
theorem Vld.taken {al gv:LI} {lim sp ks:List Int} {r:Int} (V:Vld al gv lim sp 0) (r1:1≤r) (r2:r≤lim.length) (h:0 < sp.getD (r-1).toNat 0):Fre al gv gv lim (sp.set (r-1).toNat (sp.getD (r-1).toNat 0-1)) ks r :=
 ⟨V.take r1 r2 h,rfl,fun _ _=>rfl,fun _ _ _ _ _=>Iff.rfl,fun _ _ h=>h⟩
theorem zk0 {n:Nat} {f:Nat→Bool}:Hall.sm n (fun p=>Hall.b2 (f p))=((List.range n).filter f).length:=zcn f n
theorem zhL {row:List Int} {m:Nat} (nd:row.Nodup) (h:∀ r∈row,1≤r∧r≤m):Hall.sm m (fun r=>Hall.b2 (decide ((r:Int)+1∈row)))=row.length:=by
 rw [zk0];have e:(((List.range m).filter fun r:Nat=>decide ((r:Int)+1∈row)).map fun r:Nat=>(r:Int)+1).Perm row:=by
  refine (List.perm_ext_iff_of_nodup ?_ nd).mpr fun x=>?_
  ·unfold List.Nodup;rw [pairwise_map];exact (List.nodup_range.filter _).imp fun h e=>h (by omega)
  ·constructor
   ·intro hx;obtain ⟨r,hr,rfl⟩:=mem_map.mp hx;simpa using (mem_filter.mp hr).2
   ·intro hx;have:=h x hx;refine mem_map.mpr ⟨(x-1).toNat,mem_filter.mpr ⟨mem_range.mpr (by omega),?_⟩,by omega⟩;have e:(((x-1).toNat:Nat):Int)+1=x:=by omega
    rw [e];simpa using hx
 have:=e.length_eq;rw [length_map] at this;exact this
theorem ziP {hs:List Int} {rs al gv:LI} {lim sp:List Int} (h0:∀ i,i < rs.length→0≤(rs.getD i []).getD 1 0) (V:Vld al gv lim sp 0) (hn:al.length=hs.length) (hm:lim.length=rs.length) (hl:∀ r,r < rs.length→lim.getD r 0=(rs.getD r []).getD 1 0)
  (hA:∀ q,q < hs.length→∀ r:Nat,r < rs.length→(r:Int)+1∈al.getD q []→za6 hs rs q r=true) (h2:∀ q,q < hs.length→(gv.getD q []).length=2):∃ rows,zaR hs rs rows=true:=by
 have lg:=V.lg;rw [zdG h0,← zhF h0];refine Hall.room_of (B:=fun p r=>decide (p < hs.length) && decide (r < rs.length) && decide ((r:Int)+1∈gv.getD p [])) (fun p r h=>?_) (fun p hp=>?_) fun r hr=>?_
 ·simp only [Bool.and_eq_true,decide_eq_true_eq] at h;exact hA p h.1.1 r h.1.2 (V.sub p (by omega) _ h.2)
 ·rw [← h2 p hp,← zhL (m:=rs.length) (V.nd p (by omega)) fun r hr=>by have:=V.ar p (by omega) r (V.sub p (by omega) r hr);omega];apply Hall.sm_congr;intro r hr;rw [decide_eq_true hp,decide_eq_true hr];rfl
 ·have e:=V.eq r (by omega);have s0:=V.s0 r (by omega);rw [if_neg (by omega),hl r hr,zeq] at e;have:Hall.sm hs.length (fun p=>Hall.b2 (decide (p < hs.length) && decide (r < rs.length) && decide ((r:Int)+1∈gv.getD p [])))=Hall.sm gv.length (fun p=>Hall.b2 (decide ((r:Int)+1∈gv.getD p []))):=by
   rw [show gv.length=hs.length by omega];apply Hall.sm_congr;intro p hp;rw [decide_eq_true hp,decide_eq_true hr];rfl
  rw [this];unfold limN;omega
theorem zhM {hs:List Int} {rs al gv:LI} {lim sp ls:List Int} {p:Nat} (h0:∀ i,i < rs.length→0≤(rs.getD i []).getD 1 0) (V:Vld al gv lim sp 0) (hn:al.length=hs.length) (hm:lim.length=rs.length) (hl:∀ r,r < rs.length→lim.getD r 0=(rs.getD r []).getD 1 0)
  (hA:∀ q,q < hs.length→∀ r:Nat,r < rs.length→za6 hs rs q r=true→(r:Int)+1∈al.getD q []) (h2:∀ q,q < hs.length→(gv.getD q []).length≤2) (hp:p < hs.length) (hp2:(gv.getD p []).length < 2)
  (C:Cls2 al gv sp [] ls) (hc:Cov al gv ls p):∀ rows,zaR hs rs rows=false:=by
 have lg:=V.lg;have key:¬Hall.Ok hs.length rs.length (limN rs) (fun _=>2) (za6 hs rs):=by
  intro ok
  let S:Nat→Bool:=fun q=>decide (q=p) || (gv.getD q []).any fun r=>decide (r∈ls)
  have hS:∀ q,q < hs.length→S q=true→Cov al gv ls q:=fun q hq z=>by
   simp only [S,Bool.or_eq_true,decide_eq_true_eq,any_eq_true] at z;rcases z with z | ⟨r,h1,h2⟩
   ·subst z;exact hc
   ·exact (C.2 r h2 (by simp)).2 q (by omega) h1
  have le:=ok S;have rm:Hall.room hs.length rs.length (limN rs) (za6 hs rs) S≤Hall.sm rs.length (fun r=>Hall.sm hs.length fun q=>Hall.b2 (S q && decide ((r:Int)+1∈gv.getD q []))):=by
   unfold Hall.room;refine Hall.sm_le fun r hr=>?_
   by_cases hk:(r:Int)+1∈ls
   ·refine Nat.le_trans (Nat.min_le_left _ _) ?_;have z:=(C.2 _ hk (by simp)).1;have er:((r:Int)+1-1).toNat=r:=by omega
    rw [er] at z;have e:=V.eq r (by omega);rw [if_neg (by omega),hl r hr,zeq,z] at e;have:Hall.sm hs.length (fun q=>Hall.b2 (S q && decide ((r:Int)+1∈gv.getD q [])))=Hall.sm gv.length (fun q=>Hall.b2 (decide ((r:Int)+1∈gv.getD q []))):=by
     rw [show gv.length=hs.length by omega];apply Hall.sm_congr;intro q hq
     by_cases h:(r:Int)+1∈gv.getD q []
     ·have:S q=true:=by
       simp only [S,Bool.or_eq_true,any_eq_true];exact .inr ⟨_,h,decide_eq_true hk⟩
      rw [this];rfl
     ·rw [decide_eq_false h,Bool.and_false]
    rw [this];unfold limN;omega
   ·refine Nat.le_trans (Nat.min_le_right _ _) ?_;unfold Hall.deg;refine Hall.sm_le fun q hq=>?_
    cases hs1:S q with
    | false=>simp [Hall.b2]
    | true =>
      cases ha:za6 hs rs q r with
      | false=>simp [Hall.b2]
      | true =>
        have:=(hS q hq hs1 _ (hA q hq r hr ha)).resolve_left hk;rw [decide_eq_true this];exact Nat.le_refl _
  rw [Hall.sm_swap] at rm;have lt:Hall.sm hs.length (fun q=>Hall.sm rs.length fun r=>Hall.b2 (S q && decide ((r:Int)+1∈gv.getD q []))) < Hall.need hs.length (fun _=>2) S:=by
   unfold Hall.need;have each:∀ q,q < hs.length→Hall.sm rs.length (fun r=>Hall.b2 (S q && decide ((r:Int)+1∈gv.getD q [])))=if S q=true then (gv.getD q []).length else 0:=fun q hq=>by
    cases hs1:S q with
    | false =>
      rw [if_neg Bool.false_ne_true];have:Hall.sm rs.length (fun r=>Hall.b2 (false && decide ((r:Int)+1∈gv.getD q [])))=Hall.sm rs.length (fun _=>0):=Hall.sm_congr fun i _=>rfl;rw [this,Hall.sm_zero]
    | true =>
      rw [if_pos rfl];have:Hall.sm rs.length (fun r=>Hall.b2 (true && decide ((r:Int)+1∈gv.getD q [])))=Hall.sm rs.length (fun r=>Hall.b2 (decide ((r:Int)+1∈gv.getD q []))):=Hall.sm_congr fun i _=>rfl;rw [this];exact zhL (V.nd q (by omega)) fun r hr=>by have:=V.ar q (by omega) r (V.sub q (by omega) r hr);omega
   refine Hall.sm_lt (p:=p) hp (fun q hq=>?_) ?_
   ·rw [each q hq];have:=h2 q hq;split <;> omega
   ·have hsp:S p=true:=by simp [S]
    rw [each p hp,if_pos hsp,if_pos hsp];exact hp2
  omega
 intro rows;rw [Bool.eq_false_iff];intro z;exact key ((zhF h0).mpr ((zdG h0).mp ⟨rows,z⟩))
end Prf
namespace L2
open PySem PySem.Spec PyProof.Rows
section
variable {X:Cx} {K:PySem.W.Frag} {o e value:Expr} {f:Str} {pos pos' tpos:Pos} {ta tv:TE}
theorem zay (hK:X.K=K) (he:PE X e ta) (hb:attributeBase e f X.env (eval e X.env)=eval e X.env:=by rfl):PE X (.Attribute e f pos) (tFld K ta f):=hK▸zku he hb
theorem zbx (hK:X.K=K) (ha:PE X o ta) (hv:PE X value tv) (hs:swapsWith value (some (.Attribute o f pos')) pos.line X.env=pure false:=by rfl):PS X (.Assign [.Attribute o f pos'] value pos) (sFld K ta tv f):=hK▸zkv ha hv hs
def zk1 (K:PySem.W.Frag):V→V→Hp→VK→Prop:=fun x y H Q=>∃ (p:Addr) (ns:List Int) (i:Int),x=.ref p∧y=.int i∧SqL K H p (ns.map V.int)∧0≤i∧i < ns.length∧Q (.int (ns.getD i.toNat 0)) H
theorem zhN (hK:X.K=K):PGet X (zk1 K):=by
 subst hK;intro pins s σ H x y v u Q I rx ry h;obtain ⟨p,ns,i,rfl,rfl,hq,h0,h1,q⟩:=h
 cases rx
 obtain ⟨t,rfl⟩:=ry;obtain ⟨its,r,pl,hz⟩:=I.list hq;have hi:i.toNat < ns.length:=by omega
 obtain ⟨w,ew,rw'⟩:=r.get (i:=i.toNat) (x:=.int (ns.getD i.toNat 0)) (by rw [getElem?_map,getElem?_eq_getElem hi,getD_eq_getElem?_getD,getElem?_eq_getElem hi];rfl);have hn:=line63;rw [length_map] at hz;exact getItem_listL pl.isList h0 (by omega) ew ⟨_,H,I,rw',q⟩
theorem zeU {α β:Type} (f:α→β):∀ (l:List α) (k:Nat),(l.map f).eraseIdx k=(l.eraseIdx k).map f
 | [],_=>rfl
 | _::_,0=>rfl
 | a::l,k+1=>congrArg (f a::·) (zeU f l k)
def rRemove:V→List V→Hp→VK→Prop:=fun x vs H Q=>∃ (l:Addr) (ns:List Int) (i:Int),x=.ref l∧vs=[.int i]∧H l=some (.lst (ns.map V.int))∧i∈ns∧Q .non (upd H l (.lst ((ns.erase i).map V.int)))
theorem erase_at:∀ {ns:List Int} {i:Int},i∈ns→∃ j,∃ hj:j < ns.length,ns[j]=i∧(∀ m (hm:m < ns.length),m < j→ns[m]≠i)∧ns.erase i=ns.eraseIdx j
 | n::ns,i,h=>by
   by_cases e:n=i
   ·subst e;exact ⟨0,by simp,rfl,fun m _ h=>absurd h (by omega),by simp⟩
   ·have h':i∈ns:=by
     rcases mem_cons.mp h with z | z
     ·exact absurd z.symm e
     ·exact z
    obtain ⟨j,hj,h1,h2,h3⟩:=erase_at h';refine ⟨j+1,by simp;exact hj,h1,fun m hm hlt=>?_,?_⟩
    ·cases m with
     | zero=>exact e
     | succ m=>exact h2 m (by simpa using hm) (by omega)
    ·rw [List.erase_cons_tail (by simpa using e),h3];rfl
theorem vals_int_at:∀ {ns:List Int} {its:List Value},Vals (ns.map V.int) its→∀ (m:Nat) (h1:m < ns.length) (h2:m < its.length),∃ t,its[m]=.int ns[m] t:=fun {ns its} r m h1 h2=>by
 obtain ⟨u,hu,t,rfl⟩:=r.get (i:=m) (x:=.int ns[m]) (by simp [h1]);rw [getElem?_eq_getElem h2] at hu;exact ⟨t,Option.some.inj hu⟩
theorem vals_erase:∀ {xs:List V} {us:List Value} (k:Nat),Vals xs us→Vals (xs.eraseIdx k) (us.eraseIdx k)
 | _,_,_,.nil=>.nil
 | _,_,0,.cons _ t=>t
 | _,_,k+1,.cons r t=>.cons r (vals_erase k t)
theorem mt_remove:MtM X "list.remove" rRemove:=by
 intro pins s σ H x vs v us Q I rx rv h;obtain ⟨l,ns,i,rfl,rfl,hH,hi,q⟩:=h
 cases rx
 obtain ⟨u,rfl,t,rfl⟩:=rv.one;obtain ⟨z,its,n,r,hl,e⟩:=I.lstM hH;rw [length_map] at hl z;obtain ⟨j,hj,e1,e2,e3⟩:=erase_at hi;have at_:∀ (m:Nat) (h:m < its.length),∃ t,its[m]=.int (ns[m]'(by omega)) t:=fun m h=>vals_int_at r m (by omega) h;refine call_meets F.slot_list_remove ⟨_,e,rfl⟩ F.entry_list_remove (F.args_list_remove_2 _ _)
  (MeetsSeq.list_remove l its.toArray n (.int i t) (fun y=>match y with | .int a _=>a == i | _=>false) (fun y hy=>?_) j (by simpa using (show j < its.length by omega)) ?_ (fun m hm hlt=>?_) (by rw [size_toArray];omega)) ⟨e,?_⟩
 ·obtain ⟨m,hm,rfl⟩:=getElem_of_mem (by simpa using hy:y∈its);obtain ⟨t',et⟩:=at_ m hm;rw [et];exact MeetsSeq.EqGives.int _ _ _ _
 ·obtain ⟨t',et⟩:=at_ j (by omega);rw [List.getElem_toArray,et];simpa using e1
 ·have hm':m < its.length:=by simpa using hm
  obtain ⟨t',et⟩:=at_ m hm';rw [List.getElem_toArray,et];simpa using e2 m (by omega) hlt
 ·refine ⟨.non,_,I.lset (its':=its.eraseIdx j) (ys:=(ns.erase i).map V.int) hH e ?_ ?_ ?_,rfl,q⟩
  ·show its.toArray.eraseIdxIfInBounds j=(its.eraseIdx j).toArray;rw [List.eraseIdxIfInBounds_toArray]
  ·rw [e3,← zeU];exact vals_erase j r
  ·rw [length_map];have:=List.length_erase_le (a:=i) (l:=ns);omega
end
section
variable {σ:St} {H:Hp} {Q:VK} {D:Ends} {K:PySem.W.Frag} {ta tv to ti te tb:TE} {f m:Str} {tl:TA} {C a p x:Addr} {nx bk ct:St→Hp→Prop} {rt:VK} {sp:Sp} {E:XK} {fs:List (Str×V)} {dx:Addr} {v:V} {i:Int} {xs:List V} {ns:List Int}
def zhO (K:PySem.W.Frag) (f:Str) (x:V) (H1:Hp) (Q:VK):Prop:=∃ a C dx fs v,x=.ref a∧H1 a=some (.ins C dx fs)∧Cls K C∧zbp K C f∧fs.lookup f=some v∧Q v H1
theorem zlY (h:ta σ H fun x H1=>zhO K f x H1 Q):tFld K ta f σ H Q:=h
theorem ziQ (h:H a=some (.ins C dx fs)) (c:Cls K C) (n:zbp K C f) (l:fs.lookup f=some v) (q:Q v H):zhO K f (.ref a) H Q:=⟨a,C,dx,fs,v,rfl,h,c,n,l,q⟩
def zgc (K:PySem.W.Frag) (f:Str) (y x:V) (H2:Hp) (N:Hp→Prop):Prop:=∃ a C dx fs,x=.ref a∧H2 a=some (.ins C dx fs)∧Cls K C∧zbp K C f∧fs.length < 1000∧N (upd H2 a (.ins C dx (putF f y fs)))
theorem zk2 (h:tv σ H fun y H1=>ta σ H1 fun x H2=>zgc K f y x H2 fun H3=>nx σ H3):sFld K ta tv f ⟨nx,rt,bk,ct⟩ σ H:=h
theorem zaS {y:V} {N:Hp→Prop} (h:H a=some (.ins C dx fs)) (c:Cls K C) (n:zbp K C f) (l:fs.length < 1000) (q:∀ H2,But a H H2→H2 a=some (.ins C dx (putF f y fs))→N H2):zgc K f y (.ref a) H N:=⟨a,C,dx,fs,rfl,h,c,n,l,q _ But.upd zao⟩
def zbH (C:Addr) (m:Str) (sp:Sp) (E:XK) (t:TA) (σ:St) (x:V) (H1:Hp) (Q:VK):Prop:=∃ a dx fs,x=.ref a∧H1 a=some (.ins C dx fs)∧fs.lookup m=none∧t σ H1 fun vs H2=>sp (x::(vs++[])) H2 Q E
theorem zk3 (h:ta σ H fun x H1=>zbH C m sp E tl σ x H1 Q):zjB C m sp [] E ta tl σ H Q:=h
theorem zau (h:H a=some (.ins C dx fs)) (l:fs.lookup m=none) (q:tl σ H fun vs H2=>sp (.ref a::(vs++[])) H2 Q E):zbH C m sp E tl σ (.ref a) H Q:=⟨a,dx,fs,rfl,h,l,q⟩
def zgd (C:Addr) (sp:Sp) (E:XK) (vs:List V) (H1:Hp) (Q:VK):Prop:=∀ x dx,H1 x=none→H1 dx=none→dx≠x→sp (.ref x::(vs++[])) (upd (upd H1 dx (.own x)) x (.ins C dx [])) (fun v H2=>v=.non∧Q (.ref x) H2) E
theorem zk4 (h:tl σ H fun vs H1=>zgd C sp E vs H1 Q):zjC C sp [] E tl σ H Q:=h
theorem zeV {vs:List V} (h:∀ x dx H2,H x=none→H dx=none→dx≠x→Same H H2→H2 x=some (.ins C dx [])→sp (.ref x::(vs++[])) H2 (fun v H3=>v=.non∧Q (.ref x) H3) E):zgd C sp E vs H Q :=
 fun x dx hx hd ne=>h x dx _ hx hd ne (fun b u z=>by rw [zav (zag z hx),zav (zag z hd)];exact z) zao
theorem zk5 {tget:V→V→Hp→VK→Prop} {tip:TIp} {tset:TSet} (h:to σ H fun o H1=>ti σ H1 fun i H2=>tget o i H2 fun x H3=>te σ H3 fun y H4=>tip x y H4 fun z H5=>tset o i z H5 fun H6=>nx σ H6):zkp to ti te tget tip tset ⟨nx,rt,bk,ct⟩ σ H:=h
theorem zk6 (h:SqL K H p (ns.map V.int)) (h0:0≤i) (h1:i < ns.length) (q:Q (.int (ns.getD i.toNat 0)) H):zk1 K (.ref p) (.int i) H Q:=⟨p,ns,i,rfl,rfl,h,h0,h1,q⟩
theorem zlZ {g:Int→Int→Int} {j:Int} (q:Q (.int (g i j)) H):ipI g (.int i) (.int j) H Q:=⟨i,j,rfl,rfl,q⟩
theorem zfD (h:H p=some (.lst (ns.map V.int))) (hi:i∈ns) (q:∀ H2,But p H H2→H2 p=some (.lst ((ns.erase i).map V.int))→Q .non H2):rRemove (.ref p) [.int i] H Q:=⟨p,ns,i,rfl,rfl,h,hi,q _ But.upd zao⟩
def kvT (ks:List Int):List (Key×V):=ks.map fun k=>(Sum.inl k,.bl true)
theorem zge (ks:List Int) (k:Int):(valV (kvT ks) (Sum.inl k:Key)).isSome=decide (k∈ks):=by
 induction ks with
 | nil=>rfl
 | cons y ys ih =>
   show (valV (((Sum.inl y:Key),V.bl true)::kvT ys) (Sum.inl k:Key)).isSome=_
   by_cases e:y=k
   ·subst e;rw [zbc rfl];simp
   ·rw [zbd (fun z=>e (Sum.inl.inj z)),ih,decide_eq_decide];simp [Ne.symm e]
theorem ziR {ks:List Int} {k:Int} (h:k∉ks):putK (kvT ks) (Sum.inl k:Key) (.bl true)=kvT (ks++[k]):=by
 have:valV (kvT ks) (Sum.inl k:Key)=none:=by
  have:=zge ks k;rw [decide_eq_false h] at this
  cases e:valV (kvT ks) (Sum.inl k:Key) with
  | none=>rfl
  | some v=>rw [e] at this;cases this
 rw [zix _ this];unfold kvT;rw [map_append];rfl
def zhP (y x:V) (H2:Hp) (Q:VK):Prop:=∃ a o,x=.ref a∧DGet H2 a y o∧Q (.bl o.isSome) H2
theorem zl0 (h:ta σ H fun y H1=>tb σ H1 fun x H2=>zhP y x H2 Q):tDIn ta tb σ H Q:=h
theorem ziS {ks:List Int} (h:H a=some (.dK (kvT ks))) (q:Q (.bl (decide (i∈ks))) H):zhP (.int i) (.ref a) H Q :=
 ⟨a,_,rfl,DGet.k (k:=(Sum.inl i:Key)) h,by rw [zge];exact q⟩
def zes (v x y:V) (H3:Hp) (N:Hp→Prop):Prop:=∃ a H4,x=.ref a∧DPut H3 a y v H4∧N H4
theorem zk7 (h:tv σ H fun v H1=>ta σ H1 fun x H2=>tb σ H2 fun y H3=>zes v x y H3 fun H4=>nx σ H4):zkC ta tb tv ⟨nx,rt,bk,ct⟩ σ H:=h
theorem zhQ {ks:List Int} {N:Hp→Prop} (h:H a=some (.dK (kvT ks))) (hz:ks.length≤1000) (hn:i∉ks) (q:∀ H2,But a H H2→H2 a=some (.dK (kvT (ks++[i])))→N H2):zes (.bl true) (.ref a) (.int i) H N:=by
 refine ⟨a,_,rfl,DPut.k (k:=(Sum.inl i:Key)) h (by unfold kvT;rw [length_map];exact zaW hz),q _ But.upd ?_⟩;rw [zao,ziR hn]
theorem zeW (h:∀ p H2,H p=none→Same H H2→H2 p=some (.dK (kvT []))→Q (.ref p) H2):tDNewK σ H Q:=fun p hp=>h p _ hp (zaO hp) zao
end
end L2
namespace Prf
open PySem PySem.Spec PyProof.Rows L2
def prsB:List Int→List (List Int)
 | []=>[]
 | x::xs=>(xs.map fun y=>[x,y])++prsB xs
def ziT (a b:List Int):Prop:=a.getD 0 0 < b.getD 0 0∨a.getD 0 0=b.getD 0 0∧a.getD 1 0≤b.getD 1 0
theorem prs_mem:∀ {ns:List Int} {r:List Int},ns.Pairwise (· < ·)→(r∈prsB ns↔∃ x y,r=[x,y]∧x∈ns∧y∈ns∧x < y)
 | [],r,_=>by simp [prsB]
 | n::ns,r,h=>by
   obtain ⟨h1,h2⟩:=pairwise_cons.mp h;unfold prsB;rw [mem_append,prs_mem h2,mem_map];constructor
   ·rintro (⟨y,hy,rfl⟩ | ⟨x,y,rfl,hx,hy,hlt⟩)
    ·exact ⟨n,y,rfl,by simp,by simp [hy],h1 y hy⟩
    ·exact ⟨x,y,rfl,by simp [hx],by simp [hy],hlt⟩
   ·rintro ⟨x,y,rfl,hx,hy,hlt⟩;rcases mem_cons.mp hx with rfl | hx'
    ·rcases mem_cons.mp hy with rfl | hy'
     ·omega
     ·exact .inl ⟨y,hy',rfl⟩
    ·rcases mem_cons.mp hy with rfl | hy'
     ·have:=h1 x hx';omega
     ·exact .inr ⟨x,y,rfl,hx',hy',hlt⟩
theorem prs_ord:∀ {ns:List Int},ns.Pairwise (· < ·)→(prsB ns).Pairwise ziT
 | [],_=>List.Pairwise.nil
 | n::ns,h=>by
   obtain ⟨h1,h2⟩:=pairwise_cons.mp h;unfold prsB;refine List.pairwise_append.mpr ⟨?_,prs_ord h2,fun a ha b hb=>?_⟩
   ·rw [pairwise_map];exact h2.imp fun h=>.inr ⟨rfl,Int.le_of_lt h⟩
   ·obtain ⟨y,hy,rfl⟩:=mem_map.mp ha;obtain ⟨x,z,rfl,hx,_,_⟩:=(prs_mem h2).mp hb;exact .inl (h1 x hx)
theorem ziU {ns:List Int} {i:Nat} (h:i < ns.length):prsB (ns.drop i)=((ns.drop (i+1)).map fun y=>[ns.getD i 0,y])++prsB (ns.drop (i+1)):=by
 rw [List.drop_eq_getElem_cons h,getD_eq_getElem?_getD,getElem?_eq_getElem h];rfl
theorem prs_len:∀ (ns:List Int),(prsB ns).length≤ns.length * ns.length
 | []=>Nat.le_refl _
 | n::ns=>by
   unfold prsB;rw [length_append,length_map,length_cons,Nat.add_mul,Nat.mul_add];have:=prs_len ns;omega
theorem cnt_append (a b:LI) (x:Int):cntB (a++b) x=cntB a x+cntB b x:=by
 unfold cntB;rw [filter_append,length_append]
def zeX (rs:LI) (ls:List Int):LI:=(List.range rs.length).map fun i=>[(rs.getD i []).getD 0 0,ls.getD i 0]
theorem zb6 (rs:LI) (ls:List Int):(zeX rs ls).length=rs.length:=by unfold zeX;rw [length_map,length_range]
theorem zcp {rs:LI} {ls:List Int} {i:Nat} (h:i < rs.length):(zeX rs ls).getD i []=[(rs.getD i []).getD 0 0,ls.getD i 0]:=zaw h
theorem zfE {rs rows:LI} {i:Nat} (h:i < rs.length):(zco rs rows).getD i 0=(rs.getD i []).getD 1 0-(cntB rows ((i:Int)+1):Int):=zaw h
theorem zeY {rs:LI} {ls:List Int} {h:Int} {row:List Int}:zdo (zeX rs ls) h row=true↔zdo rs h row=true:=by
 rw [zbB,zbB,zb6];constructor
 ·rintro ⟨h1,h2,h3,h4,h5,h6⟩;rw [zcp (by omega)] at h5 h6;exact ⟨h1,h2,h3,h4,h5,h6⟩
 ·rintro ⟨h1,h2,h3,h4,h5,h6⟩;refine ⟨h1,h2,h3,h4,?_,?_⟩
  ·rw [zcp (by omega)];exact h5
  ·rw [zcp (by omega)];exact h6
def zb2 (hs:List Int) (rs rows:LI):Prop:=rows.length≤hs.length∧∀ k,k < rows.length→zdo rs (hs.getD k 0) (rows.getD k [])=true
def Ext (hs:List Int) (rs rows:LI):Prop:=∃ more,zaR hs rs (rows++more)=true
theorem za3 {hs:List Int} {rs rows:LI}:zaR hs rs rows=true↔rows.length=hs.length∧(∀ k,k < hs.length→zdo rs (hs.getD k 0) (rows.getD k [])=true)∧∀ k,k < rs.length→(cntB rows ((k:Int)+1):Int)≤(rs.getD k []).getD 1 0:=by
 unfold zaR;simp only [Bool.and_eq_true,decide_eq_true_eq,all_eq_true,mem_range];have e0:∀ k:Nat,(0:Int)+(k:Int)+1=(k:Int)+1:=fun k=>by omega
 constructor
 ·rintro ⟨⟨h1,h2⟩,h3⟩;exact ⟨h1,h2,fun k hk=>by have:=h3 k hk;rwa [e0] at this⟩
 ·rintro ⟨h1,h2,h3⟩;exact ⟨⟨h1,h2⟩,fun k hk=>by rw [e0];exact h3 k hk⟩
theorem zb7 {α:Type} {xs ys:List α} {d:α} {i:Nat} (h:xs.length≤i):(xs++ys).getD i d=ys.getD (i-xs.length) d:=by
 rw [getD_eq_getElem?_getD,getD_eq_getElem?_getD,List.getElem?_append_right h]
theorem zdJ {α:Type} {xs:List α} {d:α} {i k:Nat}:(xs.drop k).getD i d=xs.getD (k+i) d:=by
 rw [getD_eq_getElem?_getD,getD_eq_getElem?_getD,List.getElem?_drop]
theorem zk8 {hs:List Int} {rs rows:LI} (P:zb2 hs rs rows):Ext hs rs rows↔(∀ k,k < rs.length→(cntB rows ((k:Int)+1):Int)≤(rs.getD k []).getD 1 0)∧∃ more,zaR (hs.drop rows.length) (zeX rs (zco rs rows)) more=true:=by
 obtain ⟨pl,pp⟩:=P;constructor
 ·rintro ⟨more,h⟩;obtain ⟨h1,h2,h3⟩:=za3.mp h;rw [length_append] at h1;refine ⟨fun k hk=>?_,more,za3.mpr ⟨by rw [length_drop];omega,fun k hk=>?_,fun k hk=>?_⟩⟩
  ·have:=h3 k hk;rw [cnt_append] at this;omega
  ·rw [length_drop] at hk;have:=h2 (rows.length+k) (by omega);rw [zb7 (by omega),Nat.add_sub_cancel_left] at this;rw [zdJ];exact zeY.mpr this
  ·rw [zb6] at hk;have:=h3 k hk;rw [cnt_append] at this;rw [zcp hk,zfE hk];show (cntB more ((k:Int)+1):Int)≤(rs.getD k []).getD 1 0-(cntB rows ((k:Int)+1):Int);omega
 ·rintro ⟨h0,more,h⟩;obtain ⟨h1,h2,h3⟩:=za3.mp h;rw [length_drop] at h1 h2;refine ⟨more,za3.mpr ⟨by rw [length_append];omega,fun k hk=>?_,fun k hk=>?_⟩⟩
  ·by_cases e:k < rows.length
   ·rw [zaF e];exact pp k e
   ·rw [zb7 (by omega)];have:=h2 (k-rows.length) (by omega);rw [zdJ] at this;have e2:rows.length+(k-rows.length)=k:=by omega
    rw [e2] at this;exact zeY.mp this
  ·have:=h3 k (by rw [zb6];exact hk);rw [zcp hk,zfE hk] at this;have t2:(cntB more ((k:Int)+1):Int)≤(rs.getD k []).getD 1 0-(cntB rows ((k:Int)+1):Int):=this;rw [cnt_append];omega
theorem zk9 {hs:List Int} {rs rows:LI} (B:InB hs rs) (h0:∀ k,k < rs.length→(cntB rows ((k:Int)+1):Int)≤(rs.getD k []).getD 1 0) (n:Nat):InB (hs.drop n) (zeX rs (zco rs rows)):=by
 have lp:=B.lp;have lr:=B.lr;refine ⟨by rw [length_drop];omega,by rw [zb6];exact lr,fun i hi=>?_,fun i hi=>?_,fun i hi=>?_,fun i hi=>?_⟩
 ·rw [length_drop] at hi;rw [zdJ];exact B.hh _ (by omega)
 ·rw [zb6] at hi;rw [zcp hi];rfl
 ·rw [zb6] at hi;rw [zcp hi];exact B.rh i hi
 ·rw [zb6] at hi;have:=h0 i hi;have:=B.rl i hi;rw [zcp hi,zfE hi];show 0≤(rs.getD i []).getD 1 0-(cntB rows ((i:Int)+1):Int)∧(rs.getD i []).getD 1 0-(cntB rows ((i:Int)+1):Int)≤30;omega
theorem zgf {row:List Int}:∀ {t full:LI},nbB t full=true→((∀ j,j < t.length→(t.getD j []).getD 0 0=(full.getD j []).getD 0 0∧(t.getD j []).getD 1 0=(full.getD j []).getD 1 0)→t.length < full.length→ziT row (full.getD t.length []))→nbB (t++[row]) full=true
 | [],[],_,_=>rfl
 | [],f::fs,_,h=>by
   have h1:=h (fun j hj=>absurd hj (by simp)) (by simp);have h2:ziT row f:=h1;show (if row.getD 0 0=f.getD 0 0 then (if row.getD 1 0=f.getD 1 0 then nbB [] fs else decide (row.getD 1 0 < f.getD 1 0)) else decide (row.getD 0 0 < f.getD 0 0))=true;unfold ziT at h2
   by_cases e:row.getD 0 0=f.getD 0 0
   ·rw [if_pos e]
    by_cases e2:row.getD 1 0=f.getD 1 0
    ·rw [if_pos e2];rfl
    ·rw [if_neg e2];exact decide_eq_true (by omega)
   ·rw [if_neg e];exact decide_eq_true (by omega)
 | t::ts,[],_,_=>rfl
 | t::ts,f::fs,hn,h=>by
   have hn':(if t.getD 0 0=f.getD 0 0 then (if t.getD 1 0=f.getD 1 0 then nbB ts fs else decide (t.getD 1 0 < f.getD 1 0)) else decide (t.getD 0 0 < f.getD 0 0))=true:=hn;show (if t.getD 0 0=f.getD 0 0 then (if t.getD 1 0=f.getD 1 0 then nbB (ts++[row]) fs else decide (t.getD 1 0 < f.getD 1 0)) else decide (t.getD 0 0 < f.getD 0 0))=true
   by_cases e:t.getD 0 0=f.getD 0 0
   ·rw [if_pos e] at hn' ⊢
    by_cases e2:t.getD 1 0=f.getD 1 0
    ·rw [if_pos e2] at hn' ⊢;refine zgf hn' fun hj hl=>?_;refine h (fun j hj'=>?_) (by simpa using hl)
     cases j with
     | zero=>exact ⟨e,e2⟩
     | succ j=>exact hj j (by simpa using hj')
    ·rw [if_neg e2] at hn' ⊢;exact hn'
   ·rw [if_neg e] at hn' ⊢;exact hn'
theorem zla {a b:List Int} (ha:a.length=2) (hb:b.length=2) (h0:a.getD 0 0=b.getD 0 0) (h1:a.getD 1 0=b.getD 1 0):a=b:=by
 rw [len2 ha,len2 hb,h0,h1]
end Prf
namespace L2
open PySem PySem.Spec PyProof.Rows
section
variable {σ:St} {H:Hp} {Q:VK} {K:PySem.W.Frag} {ta tb:TE} {a:Addr} {i:Int} {v:V}
def zgg (y x:V) (H2:Hp) (Q:VK):Prop:=∃ a o,x=.ref a∧DGet H2 a y o∧Q (.bl (!o.isSome)) H2
theorem zlb (h:ta σ H fun y H1=>tb σ H1 fun x H2=>zgg y x H2 Q):zho ta tb σ H Q:=h
theorem zhR {kvs:List (Key×V)} (h:H a=some (.dK kvs)) (q:Q (.bl (!(valV kvs (Sum.inl i:Key)).isSome)) H):zgg (.int i) (.ref a) H Q:=⟨a,_,rfl,DGet.k (k:=Sum.inl i) h,q⟩
def zgh (x y:V) (H2:Hp) (Q:VK):Prop:=∃ a v,x=.ref a∧DGet H2 a y (some v)∧Q v H2
theorem zlc (h:ta σ H fun x H1=>tb σ H1 fun y H2=>zgh x y H2 Q):zkB ta tb σ H Q:=h
theorem zhS {kvs:List (Key×V)} (h:H a=some (.dK kvs)) (e:valV kvs (Sum.inl i:Key)=some v) (q:Q v H):zgh (.ref a) (.int i) H Q:=⟨a,v,rfl,e▸DGet.k (k:=Sum.inl i) h,q⟩
theorem zgI {kvs:List (Key×V)} {N:Hp→Prop} (h:H a=some (.dK kvs)) (hz:kvs.length≤1000) (q:∀ H2,But a H H2→H2 a=some (.dK (putK kvs (Sum.inl i:Key) v))→N H2):zes v (.ref a) (.int i) H N :=
 ⟨a,_,rfl,DPut.k (k:=Sum.inl i) h (zaW hz),q _ But.upd zao⟩
end
end L2
namespace Prf
open PySem PySem.Spec PyProof.Rows L2
structure ExS where
 hs:List Int
 rs:LI
 step:Int
 dl:Option (List (List Int)×List (List Int))
def ExS.nm (s:ExS):LI:=(s.dl.map (·.1)).getD []
def ExS.en (s:ExS):LI:=(s.dl.map (·.2)).getD []
def za7 (en:LI) (k:Nat) (r:Int):Option Int:=((en.filter fun e=>decide (e.getD 0 0=(k:Int)+1) && decide (e.getD 1 0=r)).getLast?).map fun e=>e.getD 2 0
theorem zhT (k:Nat) (r:Int):za7 [] k r=none:=rfl
theorem zcw (en:LI) (e:List Int) (k:Nat) (r:Int):za7 (en++[e]) k r=if e.getD 0 0=(k:Int)+1∧e.getD 1 0=r then some (e.getD 2 0) else za7 en k r:=by
 unfold za7;rw [filter_append]
 by_cases h:e.getD 0 0=(k:Int)+1∧e.getD 1 0=r
 ·have:(decide (e.getD 0 0=(k:Int)+1) && decide (e.getD 1 0=r))=true:=by rw [decide_eq_true h.1,decide_eq_true h.2];rfl
  rw [if_pos h,filter_cons,if_pos this,List.filter_nil,List.getLast?_append];rfl
 ·have:(decide (e.getD 0 0=(k:Int)+1) && decide (e.getD 1 0=r))=false:=by
   rw [Bool.eq_false_iff];intro z;rw [Bool.and_eq_true] at z;exact h ⟨of_decide_eq_true z.1,of_decide_eq_true z.2⟩
  rw [if_neg h,filter_cons,this,List.filter_nil];simp
def exFs (va vb vs vd vc ve:V):List (Str×V):=[("paper_houses",va),("reader_rows",vb),("widest_step",vs),("is_dealt",vd),("named_readers",vc),("entered_points",ve)]
section
variable {va vb vs vd vc ve v:V}
theorem exFs_mk:putF "entered_points" ve (putF "named_readers" vc (putF "is_dealt" vd (putF "widest_step" vs (putF "reader_rows" vb (putF "paper_houses" va [])))))=exFs va vb vs vd vc ve:=by
 unfold exFs
 repeat (first | rw [if_neg (by decide +kernel)] | simp only [putF])
theorem exFs_a:(exFs va vb vs vd vc ve).lookup ("paper_houses" : Str)=some va:=by rw [← exFs_mk];simp only [zat];repeat (first | rw [if_pos trivial] | rw [if_pos rfl] | rw [if_neg (by decide +kernel)])
theorem exFs_b:(exFs va vb vs vd vc ve).lookup ("reader_rows" : Str)=some vb:=by rw [← exFs_mk];simp only [zat];repeat (first | rw [if_pos trivial] | rw [if_pos rfl] | rw [if_neg (by decide +kernel)])
theorem exFs_s:(exFs va vb vs vd vc ve).lookup ("widest_step" : Str)=some vs:=by rw [← exFs_mk];simp only [zat];repeat (first | rw [if_pos trivial] | rw [if_pos rfl] | rw [if_neg (by decide +kernel)])
theorem exFs_d:(exFs va vb vs vd vc ve).lookup ("is_dealt" : Str)=some vd:=by rw [← exFs_mk];simp only [zat];repeat (first | rw [if_pos trivial] | rw [if_pos rfl] | rw [if_neg (by decide +kernel)])
theorem exFs_c:(exFs va vb vs vd vc ve).lookup ("named_readers" : Str)=some vc:=by rw [← exFs_mk];simp only [zat];repeat (first | rw [if_pos trivial] | rw [if_pos rfl] | rw [if_neg (by decide +kernel)])
theorem exFs_e:(exFs va vb vs vd vc ve).lookup ("entered_points" : Str)=some ve:=by rw [← exFs_mk];simp only [zat];repeat (first | rw [if_pos trivial] | rw [if_pos rfl] | rw [if_neg (by decide +kernel)])
theorem exFs_ps:putF "widest_step" v (exFs va vb vs vd vc ve)=exFs va vb v vd vc ve:=by
 unfold exFs;simp only [putF];repeat (first | rw [if_pos trivial] | rw [if_pos rfl] | rw [if_neg (by decide +kernel)])
theorem exFs_pd:putF "is_dealt" v (exFs va vb vs vd vc ve)=exFs va vb vs v vc ve:=by
 unfold exFs;simp only [putF];repeat (first | rw [if_pos trivial] | rw [if_pos rfl] | rw [if_neg (by decide +kernel)])
theorem exFs_pc:putF "named_readers" v (exFs va vb vs vd vc ve)=exFs va vb vs vd v ve:=by
 unfold exFs;simp only [putF];repeat (first | rw [if_pos trivial] | rw [if_pos rfl] | rw [if_neg (by decide +kernel)])
theorem exFs_pe:putF "entered_points" v (exFs va vb vs vd vc ve)=exFs va vb vs vd vc v:=by
 unfold exFs;simp only [putF];repeat (first | rw [if_pos trivial] | rw [if_pos rfl] | rw [if_neg (by decide +kernel)])
end
def exFields:List Str:=["paper_houses","reader_rows","widest_step","is_dealt","named_readers","entered_points"]
theorem zhU {va vb vs vd vc ve:V} {m:Str} (h:m∉exFields):(exFs va vb vs vd vc ve).lookup m=none:=by
 have hn:∀ f∈exFields,¬m=f:=fun f hf z=>h (z▸hf);rw [← exFs_mk];simp only [zat];rw [if_neg (hn _ (by decide +kernel)),if_neg (hn _ (by decide +kernel)),if_neg (hn _ (by decide +kernel)),if_neg (hn _ (by decide +kernel)),if_neg (hn _ (by decide +kernel)),if_neg (hn _ (by decide +kernel))];rfl
def zdY (n:Nat) (en:LI) (k:Nat) (row:List Int):Prop:=∃ f s:Int,1≤f∧f < s∧s≤n∧(row=[f,s]∨∃ t:Int,row=[f,s,t]∧1≤t∧t≤n∧t≠f∧t≠s∧(za7 en k f).isSome=true∧(za7 en k s).isSome=true)
structure Wf (st:ExS):Prop where
 ln:st.dl.isSome=true→st.nm.length=st.hs.length
 row:∀ k,k < st.nm.length→zdY st.rs.length st.en k (st.nm.getD k [])
 pts:∀ k r p,za7 st.en k r=some p→0≤p∧p≤100
 stp:0≤st.step∧st.step≤100
structure ExAd where
 x:Addr
 dx:Addr
 a:Addr
 b:Addr
 c:Addr
 d:Addr
 ps:List Addr
 qs:List Addr
 ds:List Addr
def ExAd.own (e:ExAd):List Addr:=e.x::e.a::e.b::e.c::e.d::(e.ps++(e.qs++e.ds))
structure ExIn (C:Addr) (H:Hp) (e:ExAd) (st:ExS) (kvs:List (List (Key×V))):Prop where
 ob:H e.x=some (.ins C e.dx (exFs (.ref e.a) (.ref e.b) (.int st.step) (.bl st.dl.isSome) (.ref e.c) (.ref e.d)))
 ha:H e.a=some (.lst (st.hs.map V.int))
 hb:H e.b=some (.lst (e.ps.map V.ref))
 hc:H e.c=some (.lst (e.qs.map V.ref))
 hd:H e.d=some (.lst (e.ds.map V.ref))
 lp:e.ps.length=st.rs.length
 lq:e.qs.length=st.nm.length
 ld:e.ds.length=st.nm.length
 rp:∀ i,i < st.rs.length→H (e.ps.getD i 0)=some (.lst ((st.rs.getD i []).map V.int))
 rq:∀ i,i < st.nm.length→H (e.qs.getD i 0)=some (.lst ((st.nm.getD i []).map V.int))
 rd:∀ i,i < st.nm.length→H (e.ds.getD i 0)=some (.dK (kvs.getD i []))
 vk:∀ i,i < st.nm.length→∀ r:Int,valV (kvs.getD i []) (Sum.inl r:Key)=(za7 st.en i r).map V.int
 sk:∀ i,i < st.nm.length→(kvs.getD i []).length≤st.en.length
 lk:kvs.length=st.nm.length
 nd:e.own.Nodup
 wf:Wf st
def ExAt (C:Addr) (H:Hp) (x:Addr) (F:Addr→Prop) (st:ExS):Prop:=∃ e kvs,e.x=x∧(∀ b,F b↔b∈e.own)∧ExIn C H e st kvs
theorem zdK {ps:List Addr} {i:Nat} (h:i < ps.length):ps.getD i 0∈ps:=by
 rw [getD_eq_getElem?_getD,getElem?_eq_getElem h];exact getElem_mem h
section
variable {C x:Addr} {H H':Hp} {e:ExAd} {st:ExS} {kvs:List (List (Key×V))} {F:Addr→Prop}
theorem own_x:e.x∈e.own:=mem_cons_self
theorem own_a:e.a∈e.own:=mem_cons_of_mem _ mem_cons_self
theorem own_b:e.b∈e.own:=mem_cons_of_mem _ (mem_cons_of_mem _ mem_cons_self)
theorem own_c:e.c∈e.own:=mem_cons_of_mem _ (mem_cons_of_mem _ (mem_cons_of_mem _ mem_cons_self))
theorem own_d:e.d∈e.own:=mem_cons_of_mem _ (mem_cons_of_mem _ (mem_cons_of_mem _ (mem_cons_of_mem _ mem_cons_self)))
theorem zj4 {b:Addr} (h:b∈e.ps++(e.qs++e.ds)):b∈e.own:=mem_cons_of_mem _ (mem_cons_of_mem _ (mem_cons_of_mem _ (mem_cons_of_mem _ (mem_cons_of_mem _ h))))
theorem ziV {b:Addr} (h:b∈e.ps):b∈e.own:=zj4 (mem_append_left _ h)
theorem ziW {b:Addr} (h:b∈e.qs):b∈e.own:=zj4 (mem_append_right _ (mem_append_left _ h))
theorem zgi {b:Addr} (h:b∈e.ds):b∈e.own:=zj4 (mem_append_right _ (mem_append_right _ h))
theorem ExIn.keep (E:ExIn C H e st kvs) (k:∀ b o,b∈e.own→H b=some o→H' b=some o):ExIn C H' e st kvs :=
 ⟨k _ _ own_x E.ob,k _ _ own_a E.ha,k _ _ own_b E.hb,k _ _ own_c E.hc,k _ _ own_d E.hd,E.lp,E.lq,E.ld,fun i hi=>k _ _ (ziV (zdK (by rw [E.lp];exact hi))) (E.rp i hi),fun i hi=>k _ _ (ziW (zdK (by rw [E.lq];exact hi))) (E.rq i hi),fun i hi=>k _ _ (zgi (zdK (by rw [E.ld];exact hi))) (E.rd i hi),E.vk,E.sk,E.lk,E.nd,E.wf⟩
theorem ExIn.mem (E:ExIn C H e st kvs) {b:Addr} (h:b∈e.own):∃ o,H b=some o:=by
 unfold ExAd.own at h;simp only [mem_cons,mem_append] at h;rcases h with h | h | h | h | h | h | h | h
 ·exact ⟨_,h▸E.ob⟩
 ·exact ⟨_,h▸E.ha⟩
 ·exact ⟨_,h▸E.hb⟩
 ·exact ⟨_,h▸E.hc⟩
 ·exact ⟨_,h▸E.hd⟩
 ·obtain ⟨i,hi,ei⟩:=L2.mem_getD (d:=0) h;exact ⟨_,ei▸E.rp i (by have:=E.lp;omega)⟩
 ·obtain ⟨i,hi,ei⟩:=L2.mem_getD (d:=0) h;exact ⟨_,ei▸E.rq i (by have:=E.lq;omega)⟩
 ·obtain ⟨i,hi,ei⟩:=L2.mem_getD (d:=0) h;exact ⟨_,ei▸E.rd i (by have:=E.ld;omega)⟩
theorem ExAt.keep (E:ExAt C H x F st) (k:∀ b o,F b→H b=some o→H' b=some o):ExAt C H' x F st:=by
 obtain ⟨e,kvs,hx,hF,I⟩:=E;exact ⟨e,kvs,hx,hF,I.keep fun b o hb eb=>k b o ((hF b).mpr hb) eb⟩
def exMeths:List Str:=["bring_paper","bring_reader","set_step","deal","enter","papers","readers","step","dealt","dealing","against","due","marks","left","refuse_behind_dealing","refuse_ahead_of_dealing","refuse_not_due","due_readers","points_for","mark_for","name_third","needs_third"]
theorem zec {m:Str} (h:m∈exMeths):m∉exFields:=by
 revert m
 have:exMeths.all (fun m=>!exFields.contains m)=true:=by decide +kernel
 intro m h z;have:=all_eq_true.mp this m h;simp only [Bool.not_eq_true',← Bool.not_eq_true,List.contains_iff_mem] at this;exact this z
theorem ExAt.ob (E:ExAt C H x F st):∃ dx fs,H x=some (.ins C dx fs)∧∀ m∈exMeths,fs.lookup m=none:=by
 obtain ⟨e,kvs,rfl,hF,I⟩:=E;exact ⟨_,_,I.ob,fun m hm=>zhU (zec hm)⟩
end
structure ExFr (H H':Hp) (F F':Addr→Prop):Prop where
 kp:∀ b o,H b=some o→¬F b→H' b=some o
 fp:∀ b,F' b→F b∨H b=none
section
variable {C x:Addr} {H H':Hp} {e:ExAd} {st:ExS} {kvs:List (List (Key×V))} {F F':Addr→Prop}
theorem ExFr.same (s:Same H H'):ExFr H H' F F:=⟨fun b o e _=>s b o e,fun b h=>.inl h⟩
theorem ExFr.but {p:Addr} (b:But p H H') (hp:F p) (fp:∀ b,F' b→F b∨H b=none):ExFr H H' F F':=⟨fun c o e n=>by rw [b c (fun z=>n (z▸hp))];exact e,fp⟩
theorem ExAt.same (E:ExAt C H x F st) (s:Same H H'):ExAt C H' x F st:=E.keep fun b o _ e=>s b o e
theorem ExIn.new (E:ExIn C H e st kvs) {b:Addr} (h:H b=none):b∉e.own:=fun z=>by obtain ⟨o,e⟩:=E.mem z;rw [h] at e;cases e
end
theorem ExFr.nf {H0 H H':Hp} {F F':Addr→Prop} (f:ExFr H H' F F') (s:Same H0 H) (n:∀ c o,H0 c=some o→¬F c):(∀ c o,H0 c=some o→¬F' c)∧Same H0 H' :=
 ⟨fun c o e z=>(f.fp c z).elim (n c o e) fun z=>(by rw [s c o e] at z;cases z),fun c o e=>f.kp c o (s c o e) (n c o e)⟩
theorem InB.addP {hs:List Int} {rs:LI} (B:InB hs rs) {h:Int} (hl:hs.length < 10) (h1:1≤h∧h≤6):InB (hs++[h]) rs:=by
 refine ⟨by rw [length_append,length_singleton];omega,B.lr,fun i hi=>?_,B.r2,B.rh,B.rl⟩;rw [length_append,length_singleton] at hi
 by_cases e:i < hs.length
 ·rw [zaF e];exact B.hh i e
 ·have:i=hs.length:=by omega
  subst this;rw [zaG];exact h1
end Prf
namespace L2
open PySem PySem.Spec PyProof.Rows
section
variable {σ:St} {H:Hp} {Q:VK} {K:PySem.W.Frag} {js:List Nat} {te:TE} {J:It} {n k:Nat} {g:TG} {w:Nat→St} {x:Nat→V}
theorem ziX (T:zcz J n k js σ g w H) (hz:n≤1000) (R:Addr→Nat→V→Hp→Prop) (S:List V→V→Prop)
  (st:∀ p i v H1 H2,R p i v H1→(∀ b o,H1 b=some o→b≠p→H2 b=some o)→R p i v H2)
  (he:∀ p ys i H' Q',i < n→H p=none→Same H H'→H' p=some (.lst ys)→ys.length=i→(∀ j,j < i→R p j (ys.getD j .non) H')→(∀ v H2,Same H' H2→R p i v H2→S ys v→Q' v H2)→te (w i++capV js σ) H' Q')
  (hq:∀ p vs H2,H p=none→Same H H2→H2 p=some (.lst vs)→vs.length=n→(∀ i,i < n→R p i (vs.getD i .non) H2)→(∀ i,i < n→S (vs.take i) (vs.getD i .non))→Q (.ref p) H2):zfz J k js g tTT te σ H Q:=by
 intro p hp;refine ⟨fun i m σc H'=>m=n-i∧i≤n∧(∃ u:St,u.length=k∧σc=u++capV js σ)∧Same H H'∧∃ vs:List V,vs.length=i∧H' p=some (.lst vs)∧(∀ j,j < i→R p j (vs.getD j .non) H')∧∀ j,j < i→S (vs.take j) (vs.getD j .non),⟨n,by simp,zero_le _,⟨List.replicate k none,length_replicate,rfl⟩,zaO hp,[],rfl,zao,fun j hj=>absurd hj (by omega),fun j hj=>absurd hj (by omega)⟩,?_⟩;rintro i m σc H' ⟨rfl,hi,⟨u,hu,rfl⟩,s,vs,hvl,hpp,hR,hS⟩;have hsl:n < sizeLine:=zaW hz
 by_cases hlt:i < n
 ·refine .inr ⟨T.go i _ s hlt,fun σ' H'=>(∃ u:St,u.length=k∧σ'=u++capV js σ)∧Same H H'∧∃ vs:List V,vs.length=i+1∧H' p=some (.lst vs)∧(∀ j,j < i+1→R p j (vs.getD j .non) H')∧∀ j,j < i+1→S (vs.take j) (vs.getD j .non),fun σ' H' ⟨h1,h2,h3⟩=>⟨n-(i+1),by omega,rfl,hlt,h1,h2,h3⟩,fun v H2 hy=>?_⟩;refine T.yld i H' v H2 u _ s hlt hu hy fun H3 s3=>?_;refine r_tt ?_;rw [if_pos rfl];have hpp3:=s3 _ _ hpp;refine he p vs i _ _ hlt hp (s.trans s3) hpp3 hvl (fun j hj=>st p j _ _ _ (hR j hj) fun b o e _=>s3 b o e) fun v H5 s5 hv sv=>?_;refine ⟨vs,s5 _ _ hpp3,by omega,⟨w i,T.len i,rfl⟩,zf7 ((s.trans s3).trans s5) hp,vs++[v],by rw [length_append,hvl];rfl,zao,fun j hj=>?_,fun j hj=>?_⟩
  ·by_cases hji:j < i
   ·rw [zaF (by omega)];exact st p j _ _ _ (hR j hji) fun b o e nb=>by rw [zav nb];exact s5 _ _ (s3 _ _ e)
   ·have e0:j=vs.length:=by omega
    subst e0;rw [zaG];exact st p _ _ _ _ (hvl▸hv) fun b o e nb=>by rw [zav nb];exact e
  ·by_cases hji:j < i
   ·rw [zaF (by omega),List.take_append_of_le_length (by omega)];exact hS j hji
   ·have e0:j=vs.length:=by omega
    subst e0;rw [zaG,List.take_append_of_le_length (Nat.le_refl _),take_length];exact sv
 ·have e:i=n:=by omega
  subst e;exact .inl ⟨T.stop _ s,hq p vs _ hp s hpp hvl hR hS⟩
theorem zeZ {xs:List Int} {i:Nat} (h:i < xs.length):(xs.map V.int).getD i .non=.int (xs.getD i 0):=by
 rw [getD_eq_getElem?_getD,getElem?_map,getElem?_eq_getElem h,getD_eq_getElem?_getD,getElem?_eq_getElem h];rfl
theorem zbF {f:Str} {v:V}:∀ {fs:List (Str×V)} {n:Nat},fs.length < n→(putF f v fs).length < n+1
 | [],n,h=>by show 1 < n+1;have:0 < n:=h;omega
 | (g,x)::r,n,h=>by
  show (if g=f then (g,v)::r else (g,x)::putF f v r).length < n+1;have h':r.length+1 < n:=h;split
  ·show r.length+1 < n+1;omega
  ·show (putF f v r).length+1 < n+1;have:=zbF (f:=f) (v:=v) (fs:=r) (n:=n-1) (by omega);omega
theorem zdZ {α:Type} (xs:List α) (d:α):(List.range xs.length).map (fun i=>xs.getD i d)=xs:=by
 refine ext_getElem (by simp) fun i h1 h2=>?_;simp at h1 ⊢;rw [getElem?_eq_getElem h1];rfl
theorem zgJ (T:zcz J n k js σ g w H) (hz:n≤1000) (he:te=tDNewK)
  (hq:∀ p (ds:List Addr) H2,H p=none→Same H H2→H2 p=some (.lst (ds.map V.ref))→ds.length=n→ds.Nodup→(∀ i,i < n→H2 (ds.getD i 0)=some (.dK [])∧H (ds.getD i 0)=none∧ds.getD i 0≠p)→Q (.ref p) H2):zfz J k js g tTT te σ H Q:=by
 subst he;refine ziX T hz (fun p i v H2=>∃ q,v=.ref q∧H2 q=some (.dK [])∧H q=none∧q≠p) (fun ys v=>v∉ys) ?_ ?_ ?_
 ·rintro p i v H1 H2 ⟨q,rfl,h1,h2,h3⟩ k;exact ⟨q,rfl,k _ _ h1 h3,h2,h3⟩
 ·intro p ys i H' Q' hi hp s hpp hl hR q;refine zeW fun d H2 hd s2 e2=>q _ _ s2 ⟨d,rfl,e2,s.free hd,(zag hpp hd).symm⟩ fun hm=>?_;obtain ⟨j,hj,ej⟩:=L2.mem_getD (d:=V.non) hm;obtain ⟨q',e1,e3,_⟩:=hR j (by omega);rw [ej] at e1;have:d=q':=by injection e1
  rw [← this,hd] at e3
  cases e3
 ·intro p vs H2 hp s hpp hl hR hS;have:∃ ds:List Addr,vs=ds.map V.ref:=by
   refine ⟨vs.map fun v=>match v with | .ref a=>a | _=>0,?_⟩;rw [map_map];refine (List.map_id _).symm.trans (List.map_congr_left fun v hv=>?_);obtain ⟨j,hj,ej⟩:=L2.mem_getD (d:=V.non) hv;obtain ⟨q',e1,_⟩:=hR j (by omega);rw [ej] at e1;subst e1;rfl
  obtain ⟨ds,rfl⟩:=this;rw [length_map] at hl;have ed:∀ i,i < n→(ds.map V.ref).getD i .non=.ref (ds.getD i 0):=fun i hi=>by
   rw [getD_eq_getElem?_getD,getElem?_map,getElem?_eq_getElem (by omega),getD_eq_getElem?_getD,getElem?_eq_getElem (by omega)];rfl
  refine hq p ds H2 hp s hpp hl ?_ fun i hi=>?_
  ·refine List.pairwise_iff_getElem.mpr fun i j hi hj hlt e=>?_;have:=hS j (by omega);rw [ed j (by omega)] at this;refine this ?_;rw [← List.map_take];refine mem_map.mpr ⟨ds[i],?_,?_⟩
   ·exact List.mem_iff_getElem.mpr ⟨i,by rw [length_take];omega,by rw [List.getElem_take]⟩
   ·rw [getD_eq_getElem?_getD,getElem?_eq_getElem hj,e];rfl
  ·obtain ⟨q',e1,e2,e3,e4⟩:=hR i hi;rw [ed i hi] at e1;have:ds.getD i 0=q':=by injection e1
   rw [this];exact ⟨e2,e3,e4⟩
end
end L2
namespace Prf
open PySem PySem.Spec PyProof.Rows L2
section
variable {C x:Addr} {H H' H1 H2 H3:Hp} {e:ExAd} {st:ExS} {kvs:List (List (Key×V))} {F F':Addr→Prop}
structure ExNd (e:ExAd):Prop where
 xa:e.x≠e.a
 xb:e.x≠e.b
 xc:e.x≠e.c
 xd:e.x≠e.d
 xp:e.x∉e.ps
 xq:e.x∉e.qs
 xs:e.x∉e.ds
 ab:e.a≠e.b
 ac:e.a≠e.c
 ad:e.a≠e.d
 ap:e.a∉e.ps
 aq:e.a∉e.qs
 as:e.a∉e.ds
 bc:e.b≠e.c
 bd:e.b≠e.d
 bp:e.b∉e.ps
 bq:e.b∉e.qs
 bs:e.b∉e.ds
 cd:e.c≠e.d
 cp:e.c∉e.ps
 cq:e.c∉e.qs
 cs:e.c∉e.ds
 dp:e.d∉e.ps
 dq:e.d∉e.qs
 ds:e.d∉e.ds
 np:e.ps.Nodup
 nq:e.qs.Nodup
 nds:e.ds.Nodup
 pq:∀ b,b∈e.ps→b∉e.qs
 pds:∀ b,b∈e.ps→b∉e.ds
 qds:∀ b,b∈e.qs→b∉e.ds
theorem nd_iff:e.own.Nodup↔ExNd e:=by
 unfold ExAd.own;simp only [nodup_cons,mem_cons,mem_append,nodup_append,not_or];constructor
 ·rintro ⟨⟨xa,xb,xc,xd,xp,xq,xs⟩,⟨ab,ac,ad,ap,aq,as⟩,⟨bc,bd,bp,bq,bs⟩,⟨cd,cp,cq,cs⟩,⟨dp,dq,ds⟩,np,⟨nq,nds,qd⟩,pqd⟩;exact ⟨xa,xb,xc,xd,xp,xq,xs,ab,ac,ad,ap,aq,as,bc,bd,bp,bq,bs,cd,cp,cq,cs,dp,dq,ds,np,nq,nds,fun b h h'=>pqd b h b (.inl h') rfl,fun b h h'=>pqd b h b (.inr h') rfl,fun b h h'=>qd b h b h' rfl⟩
 ·intro N;exact ⟨⟨N.xa,N.xb,N.xc,N.xd,N.xp,N.xq,N.xs⟩,⟨N.ab,N.ac,N.ad,N.ap,N.aq,N.as⟩,⟨N.bc,N.bd,N.bp,N.bq,N.bs⟩,⟨N.cd,N.cp,N.cq,N.cs⟩,⟨N.dp,N.dq,N.ds⟩,N.np,⟨N.nq,N.nds,fun a h b h' z=>N.qds a h (z▸h')⟩,fun a h b h' z=>h'.elim (fun h'=>N.pq a h (z▸h')) fun h'=>N.pds a h (z▸h')⟩
theorem zdY.mono {n n' k:Nat} {en en':LI} {row:List Int} (h:zdY n en k row) (hn:n≤n') (he:∀ r,(za7 en k r).isSome=true→(za7 en' k r).isSome=true):zdY n' en' k row:=by
 obtain ⟨f,s,h1,h2,h3,h4⟩:=h;refine ⟨f,s,h1,h2,by omega,?_⟩;rcases h4 with h4 | ⟨t,h4,t1,t2,t3,t4,t5,t6⟩
 ·exact .inl h4
 ·exact .inr ⟨t,h4,t1,by omega,t3,t4,he _ t5,he _ t6⟩
theorem zdY.len {n k:Nat} {en:LI} {row:List Int} (h:zdY n en k row):row.length=2∨row.length=3:=by
 obtain ⟨f,s,h1,h2,h3,h4 | ⟨t,h4,_⟩⟩:=h
 ·exact .inl (by rw [h4];rfl)
 ·exact .inr (by rw [h4];rfl)
theorem zdY.rng {n k:Nat} {en:LI} {row:List Int} (h:zdY n en k row) {r:Int} (hr:r∈row):1≤r∧r≤n:=by
 obtain ⟨f,s,h1,h2,h3,h4 | ⟨t,h4,t1,t2,_⟩⟩:=h
 ·rw [h4] at hr;simp only [mem_cons,not_mem_nil,or_false] at hr;omega
 ·rw [h4] at hr;simp only [mem_cons,not_mem_nil,or_false] at hr;omega
theorem Wf.ofStep {st:ExS} (w:Wf st) {s:Int} (h:0≤s∧s≤100):Wf { st with step:=s }:=⟨w.ln,w.row,w.pts,h⟩
theorem zj5 {st:ExS} (h:st.dl=none):st.nm=[]:=by unfold ExS.nm;rw [h];rfl
theorem Wf.ofPaper {st:ExS} (w:Wf st) (hd:st.dl=none) {h:Int}:Wf { st with hs:=st.hs++[h] }:=⟨fun z=>(by rw [show ({ st with hs:=st.hs++[h] }:ExS).dl=st.dl from rfl,hd] at z;cases z),w.row,w.pts,w.stp⟩
theorem Wf.ofReader {st:ExS} (w:Wf st) {r:List Int}:Wf { st with rs:=st.rs++[r] }:=⟨w.ln,fun k hk=>(w.row k hk).mono (by show _≤(st.rs++[r]).length;rw [length_append];omega) fun _ z=>z,w.pts,w.stp⟩
theorem Wf.ofDeal {st:ExS} (w:Wf st) {rows:LI} (h:zaR st.hs st.rs rows=true):Wf { st with dl:=some (rows,[]) }:=by
 obtain ⟨h1,h2,h3⟩:=za3.mp h;refine ⟨fun _=>h1,fun k hk=>?_,fun k r p z=>(by cases z),w.stp⟩;have hk':k < rows.length:=hk;have hp:=h2 k (by omega);show zdY st.rs.length [] k (rows.getD k []);unfold zdo at hp;simp only [Bool.and_eq_true,decide_eq_true_eq,all_eq_true] at hp;obtain ⟨⟨l2,ha⟩,hlt⟩:=hp
 match hr:rows.getD k [],l2 with
 | [f,s],_ =>
   rw [hr] at ha hlt;have hf:=ha f (by simp);have hs:=ha s (by simp);have hlt':f < s:=hlt;exact ⟨f,s,by omega,hlt',by omega,.inl rfl⟩
theorem Wf.ofEnter {st:ExS} {nm en:LI} (w:Wf st) (hdl:st.dl=some (nm,en)) {k r p:Int} (h:0≤p∧p≤100):Wf { st with dl:=some (nm,en++[[k,r,p]]) }:=by
 have enm:st.nm=nm:=by unfold ExS.nm;rw [hdl];rfl
 have een:st.en=en:=by unfold ExS.en;rw [hdl];rfl
 have hs:∀ j r',(za7 en j r').isSome=true→(za7 (en++[[k,r,p]]) j r').isSome=true:=fun j r' z=>by
  rw [zcw];split
  ·rfl
  ·exact z
 refine ⟨fun _=>by show nm.length=_;rw [← enm];exact w.ln (by rw [hdl];rfl),fun j hj=>?_,fun j r' p' z=>?_,w.stp⟩
 ·have:=w.row j (by rw [enm];exact hj);rw [enm,een] at this;exact this.mono (Nat.le_refl _) (hs j)
 ·have z':za7 (en++[[k,r,p]]) j r'=some p':=z;rw [zcw] at z';split at z'
  ·have:p=p':=Option.some.inj z';omega
  ·exact w.pts j r' p' (by rw [een];exact z')
theorem Wf.ofThird {st:ExS} {nm en:LI} (w:Wf st) (hdl:st.dl=some (nm,en)) {k:Nat} {f s t:Int} (hk:k < nm.length) (hr:nm.getD k []=[f,s]) (ht:1≤t∧t≤st.rs.length) (hn:t∉[f,s]) (hf:(za7 en k f).isSome=true) (hs:(za7 en k s).isSome=true):Wf { st with dl:=some (nm.set k (nm.getD k []++[t]),en) }:=by
 have enm:st.nm=nm:=by unfold ExS.nm;rw [hdl];rfl
 have een:st.en=en:=by unfold ExS.en;rw [hdl];rfl
 have ls:(nm.set k (nm.getD k []++[t])).length=nm.length:=length_set;refine ⟨fun _=>by show (nm.set k _).length=_;rw [ls,← enm];exact w.ln (by rw [hdl];rfl),fun j hj=>?_,fun j r' p' z=>w.pts j r' p' (by rw [een];exact z),w.stp⟩;have hj':j < nm.length:=by rw [← ls];exact hj
 have:=w.row j (by rw [enm];exact hj');rw [enm,een] at this;show zdY st.rs.length en j ((nm.set k (nm.getD k []++[t])).getD j []);rw [za5 hk]
 by_cases z:j=k
 ·subst z;rw [if_pos rfl,hr];rw [hr] at this;obtain ⟨f',s',h1,h2,h3,h4 | ⟨t',h4,_⟩⟩:=this
  ·injection h4 with a b;injection b with b c;subst a b;simp only [mem_cons,not_mem_nil,or_false,not_or] at hn;exact ⟨f,s,h1,h2,h3,.inr ⟨t,rfl,ht.1,ht.2,hn.1,hn.2,hf,hs⟩⟩
  ·simp at h4
 ·rw [if_neg z];exact this
theorem ExIn.N (E:ExIn C H e st kvs):ExNd e:=nd_iff.mp E.nd
theorem ExIn.at (E:ExIn C H e st kvs):ExAt C H e.x (fun b=>b∈e.own) st:=⟨e,kvs,rfl,fun _=>Iff.rfl,E⟩
theorem zba {b p:Addr} {l:List Addr} (h:p∉l) (hb:b∈l):b≠p:=fun z=>h (z▸hb)
theorem ExIn.ip (E:ExIn C H e st kvs) {i:Nat} (hi:i < st.rs.length):e.ps.getD i 0∈e.ps:=zdK (by have:=E.lp;omega)
theorem ExIn.iq (E:ExIn C H e st kvs) {i:Nat} (hi:i < st.nm.length):e.qs.getD i 0∈e.qs:=zdK (by have:=E.lq;omega)
theorem ExIn.is (E:ExIn C H e st kvs) {i:Nat} (hi:i < st.nm.length):e.ds.getD i 0∈e.ds:=zdK (by have:=E.ld;omega)
theorem ExIn.setStep (E:ExIn C H e st kvs) {s:Int} (b:But e.x H H') (h:H' e.x=some (.ins C e.dx (putF "widest_step" (.int s) (exFs (.ref e.a) (.ref e.b) (.int st.step) (.bl st.dl.isSome) (.ref e.c) (.ref e.d))))) (wf:0≤s∧s≤100):ExIn C H' e { st with step:=s } kvs:=by
 have N:=E.N;rw [exFs_ps] at h;exact ⟨h,by rw [b _ N.xa.symm];exact E.ha,by rw [b _ N.xb.symm];exact E.hb,by rw [b _ N.xc.symm];exact E.hc,by rw [b _ N.xd.symm];exact E.hd,E.lp,E.lq,E.ld,fun i hi=>by rw [b _ (zba N.xp (E.ip hi))];exact E.rp i hi,fun i hi=>by rw [b _ (zba N.xq (E.iq hi))];exact E.rq i hi,fun i hi=>by rw [b _ (zba N.xs (E.is hi))];exact E.rd i hi,E.vk,E.sk,E.lk,E.nd,E.wf.ofStep wf⟩
theorem ExIn.paper (E:ExIn C H e st kvs) (hd:st.dl=none) {h:Int} (b:But e.a H H') (h1:H' e.a=some (.lst (st.hs.map V.int++[.int h]))):ExIn C H' e { st with hs:=st.hs++[h] } kvs:=by
 have N:=E.N;exact ⟨by rw [b _ N.xa];exact E.ob,by rw [h1,map_append];rfl,by rw [b _ N.ab.symm];exact E.hb,by rw [b _ N.ac.symm];exact E.hc,by rw [b _ N.ad.symm];exact E.hd,E.lp,E.lq,E.ld,fun i hi=>by rw [b _ (zba N.ap (E.ip hi))];exact E.rp i hi,fun i hi=>by rw [b _ (zba N.aq (E.iq hi))];exact E.rq i hi,fun i hi=>by rw [b _ (zba N.as (E.is hi))];exact E.rd i hi,E.vk,E.sk,E.lk,E.nd,E.wf.ofPaper hd⟩
theorem ExIn.reader (E:ExIn C H e st kvs) {row:List Int} {r:Addr} (hr:r∉e.own) (er:H r=some (.lst (row.map V.int))) (b:But e.b H H') (h1:H' e.b=some (.lst (e.ps.map V.ref++[.ref r]))):ExIn C H' { e with ps:=e.ps++[r] } { st with rs:=st.rs++[row] } kvs:=by
 have N:=E.N;have lp:=E.lp;have nrb:r≠e.b:=fun z=>hr (z▸own_b);refine ⟨by rw [b _ N.xb];exact E.ob,by rw [b _ N.ab];exact E.ha,by rw [h1,map_append];rfl,by rw [b _ N.bc.symm];exact E.hc,by rw [b _ N.bd.symm];exact E.hd,by show (e.ps++[r]).length=(st.rs++[row]).length;rw [length_append,length_append,lp];rfl,E.lq,E.ld,fun i hi=>?_,fun i hi=>by rw [b _ (zba N.bq (E.iq hi))];exact E.rq i hi,fun i hi=>by rw [b _ (zba N.bs (E.is hi))];exact E.rd i hi,E.vk,E.sk,E.lk,?_,E.wf.ofReader⟩
 ·have hi':i < (st.rs++[row]).length:=hi;rw [length_append,length_singleton] at hi';show H' ((e.ps++[r]).getD i 0)=some (.lst (((st.rs++[row]).getD i []).map V.int))
  by_cases z:i < st.rs.length
  ·rw [zaF (by omega),zaF z,b _ (zba N.bp (E.ip z))];exact E.rp i z
  ·have z':i=st.rs.length:=by omega
   subst z';rw [zaG,← lp,zaG,b _ nrb];exact er
 ·refine nd_iff.mpr ⟨N.xa,N.xb,N.xc,N.xd,?_,N.xq,N.xs,N.ab,N.ac,N.ad,?_,N.aq,N.as,N.bc,N.bd,?_,N.bq,N.bs,N.cd,?_,N.cq,N.cs,?_,N.dq,N.ds,?_,N.nq,N.nds,?_,?_,N.qds⟩
  ·exact fun h=>(mem_append.mp h).elim N.xp fun h=>hr (mem_singleton.mp h▸own_x)
  ·exact fun h=>(mem_append.mp h).elim N.ap fun h=>hr (mem_singleton.mp h▸own_a)
  ·exact fun h=>(mem_append.mp h).elim N.bp fun h=>hr (mem_singleton.mp h▸own_b)
  ·exact fun h=>(mem_append.mp h).elim N.cp fun h=>hr (mem_singleton.mp h▸own_c)
  ·exact fun h=>(mem_append.mp h).elim N.dp fun h=>hr (mem_singleton.mp h▸own_d)
  ·exact nodup_append.mpr ⟨N.np,by simp,fun c hc d hd z=>hr (by rw [← mem_singleton.mp hd,← z];exact ziV hc)⟩
  ·exact fun c hc=>(mem_append.mp hc).elim (N.pq c) fun h z=>hr (by rw [← mem_singleton.mp h];exact ziW z)
  ·exact fun c hc=>(mem_append.mp hc).elim (N.pds c) fun h z=>hr (by rw [← mem_singleton.mp h];exact zgi z)
theorem zgK {r b:Addr} (h:b∈({ e with ps:=e.ps++[r] }:ExAd).own):b∈e.own∨b=r:=by
 unfold ExAd.own at h ⊢;simp only [mem_cons,mem_append,not_mem_nil,or_false] at h ⊢;rcases h with h | h | h | h | h | (h | h) | h | h <;> simp [h]
theorem zet (E:ExIn C H e st kvs) {b:Addr} (h:H b=none):b≠e.x∧b≠e.a∧b≠e.b∧b≠e.c∧b≠e.d∧b∉e.ps∧b∉e.qs∧b∉e.ds:=by
 have n:=E.new h;exact ⟨fun z=>n (z▸own_x),fun z=>n (z▸own_a),fun z=>n (z▸own_b),fun z=>n (z▸own_c),fun z=>n (z▸own_d),fun z=>n (ziV z),fun z=>n (ziW z),fun z=>n (zgi z)⟩
theorem ExIn.deal {p q:Addr} {rows:LI} {ds:List Addr} {H5:Hp} (E:ExIn C H e st kvs) (hr:zaR st.hs st.rs rows=true) (R:zaL H p rows H1) (k:∀ b o,H1 b=some o→b≠e.x→H5 b=some o)
  (hx:H5 e.x=some (.ins C e.dx (exFs (.ref e.a) (.ref e.b) (.int st.step) (.bl true) (.ref p) (.ref q)))) (hq:H5 q=some (.lst (ds.map V.ref))) (nq:H1 q=none) (ld:ds.length=rows.length) (nd:ds.Nodup)
  (hd:∀ i,i < rows.length→H5 (ds.getD i 0)=some (.dK [])∧H1 (ds.getD i 0)=none∧ds.getD i 0≠q) :
  ∃ e',e'.x=e.x∧ExIn C H5 e' { st with dl:=some (rows,[]) } (rows.map fun _=>[])∧∀ b∈e'.own,b∈e.own∨H b=none:=by
 obtain ⟨s,np,qs,hp,lq,ndq,hrow⟩:=R;have N:=E.N;have hf:∀ {b o},H b=some o→b≠e.x→H5 b=some o:=fun h n=>k _ _ (s _ _ h) n;have mq:∀ b∈qs,H b=none∧b≠p∧∃ o,H1 b=some o:=fun b hb=>by
  obtain ⟨i,hi,ei⟩:=L2.mem_getD (d:=0) hb;obtain ⟨h1,h2,h3⟩:=hrow i (by omega);rw [ei] at h1 h2 h3;exact ⟨h2,h3,_,h1⟩
 have md:∀ b∈ds,H1 b=none∧b≠q:=fun b hb=>by
  obtain ⟨i,hi,ei⟩:=L2.mem_getD (d:=0) hb;obtain ⟨h1,h2,h3⟩:=hd i (by omega);rw [ei] at h1 h2 h3;exact ⟨h2,h3⟩
 have nqH:H q=none:=s.free nq;have P:=zet E np;have Q:=zet E nqH;have D:=fun {b} hb=>zet E (s.free (md b hb).1);have M:=fun {b} hb=>zet E (mq b hb).1;refine ⟨{ e with c:=p,d:=q,qs:=qs,ds:=ds },rfl,⟨hx,hf E.ha N.xa.symm,hf E.hb N.xb.symm,k _ _ hp P.1,hq,E.lp,lq,ld,fun i hi=>hf (E.rp i hi) (zba N.xp (E.ip hi)),fun i hi=>?_,fun i hi=>?_,fun i hi r=>?_,fun i hi=>?_,by show (rows.map fun _=>_).length=rows.length;rw [length_map],nd_iff.mpr ?_,E.wf.ofDeal hr⟩,?_⟩
 ·exact k _ _ (hrow i hi).1 (M (zdK (show i < qs.length by rw [lq];exact hi))).1
 ·have hi':i < rows.length:=hi;have e0:(rows.map fun _=>([]:List (Key×V))).getD i []=[]:=by rw [getD_eq_getElem?_getD,getElem?_map,getElem?_eq_getElem hi'];rfl
  rw [e0];exact (hd i hi).1
 ·have hi':i < rows.length:=hi;have e0:(rows.map fun _=>([]:List (Key×V))).getD i []=[]:=by rw [getD_eq_getElem?_getD,getElem?_map,getElem?_eq_getElem hi'];rfl
  rw [e0];rfl
 ·have hi':i < rows.length:=hi;have e0:(rows.map fun _=>([]:List (Key×V))).getD i []=[]:=by rw [getD_eq_getElem?_getD,getElem?_map,getElem?_eq_getElem hi'];rfl
  rw [e0];exact zero_le _
 ·exact ⟨N.xa,N.xb,P.1.symm,Q.1.symm,N.xp,fun h=>(M h).1 rfl,fun h=>(D h).1 rfl,N.ab,P.2.1.symm,Q.2.1.symm,N.ap,fun h=>(M h).2.1 rfl,fun h=>(D h).2.1 rfl,P.2.2.1.symm,Q.2.2.1.symm,N.bp,fun h=>(M h).2.2.1 rfl,fun h=>(D h).2.2.1 rfl,
   fun z=>(by rw [← show p=q from z,hp] at nq;cases nq),P.2.2.2.2.2.1,fun h=>(mq _ h).2.1 rfl,fun h=>(by have:=(md _ h).1;rw [hp] at this;cases this),Q.2.2.2.2.2.1,fun h=>(by obtain ⟨o,z⟩:=(mq _ h).2.2;rw [nq] at z;cases z),fun h=>(md _ h).2 rfl,N.np,ndq,nd,
   fun b h h'=>(M h').2.2.2.2.2.1 h,fun b h h'=>(D h').2.2.2.2.2.1 h,fun b h h'=>(by obtain ⟨o,z⟩:=(mq _ h).2.2;rw [(md _ h').1] at z;cases z)⟩
 ·intro b hb;unfold ExAd.own at hb;simp only [mem_cons,mem_append] at hb;rcases hb with h | h | h | h | h | h | h | h
  ·exact .inl (h▸own_x)
  ·exact .inl (h▸own_a)
  ·exact .inl (h▸own_b)
  ·exact .inr (h▸np)
  ·exact .inr (h▸nqH)
  ·exact .inl (ziV h)
  ·exact .inr (mq _ h).1
  ·exact .inr (s.free (md _ h).1)
theorem zb8 {α:Type} {xs:List α} {k i:Nat} {v d:α} (hk:k < xs.length):(xs.set k v).getD i d=if i=k then v else xs.getD i d:=by
 rw [getD_eq_getElem?_getD,List.getElem?_set]
 by_cases h:i=k
 ·subst h;rw [if_pos rfl,if_pos rfl,if_pos hk];rfl
 ·rw [if_neg (fun z=>h z.symm),if_neg h,getD_eq_getElem?_getD]
theorem zcT {ps:List Addr} (nd:ps.Nodup) {i j:Nat} (hi:i < ps.length) (hj:j < ps.length) (h:ps.getD i 0=ps.getD j 0):i=j:=by
 rw [getD_eq_getElem?_getD,getD_eq_getElem?_getD,getElem?_eq_getElem hi,getElem?_eq_getElem hj] at h;exact (getElem_inj nd).mp h
theorem ExIn.enter {nm en:LI} {k:Nat} {r pts:Int} (E:ExIn C H e st kvs) (hdl:st.dl=some (nm,en)) (hk:k < nm.length) (hpt:0≤pts∧pts≤100) (b:But (e.ds.getD k 0) H H')
  (h1:H' (e.ds.getD k 0)=some (.dK (putK (kvs.getD k []) (Sum.inl r:Key) (.int pts)))) :
  ExIn C H' e { st with dl:=some (nm,en++[[(k:Int)+1,r,pts]]) } (kvs.set k (putK (kvs.getD k []) (Sum.inl r:Key) (.int pts))):=by
 have N:=E.N;have enm:st.nm=nm:=by unfold ExS.nm;rw [hdl];rfl
 have een:st.en=en:=by unfold ExS.en;rw [hdl];rfl
 have ld:=E.ld;have lk:=E.lk;rw [enm] at ld lk;have hm:e.ds.getD k 0∈e.ds:=zdK (by omega);have ne:∀ {l},l∉e.ds→l≠e.ds.getD k 0:=fun h z=>h (z▸hm);have hs:st.dl.isSome=true:=by rw [hdl];rfl
 have ob:=E.ob;rw [hs] at ob;refine ⟨by rw [b _ (ne N.xs)];exact ob,by rw [b _ (ne N.as)];exact E.ha,by rw [b _ (ne N.bs)];exact E.hb,by rw [b _ (ne N.cs)];exact E.hc,by rw [b _ (ne N.ds)];exact E.hd,E.lp,by have:=E.lq;rw [enm] at this;exact this,ld,fun i hi=>?_,fun i hi=>?_,fun i hi=>?_,fun i hi r'=>?_,fun i hi=>?_,by rw [length_set];exact lk,E.nd,E.wf.ofEnter hdl hpt⟩
 ·rw [b _ (ne (N.pds _ (E.ip hi)))];exact E.rp i hi
 ·have hi':i < st.nm.length:=by rw [enm];exact hi
  have:=E.rq i hi';rw [enm] at this;rw [b _ (ne (N.qds _ (E.iq hi')))];exact this
 ·have hi':i < nm.length:=hi;rw [zb8 (by omega)]
  by_cases z:i=k
  ·subst z;rw [if_pos rfl];exact h1
  ·rw [if_neg z,b _ (fun w=>z (zcT N.nds (by omega) (by omega) w))];exact E.rd i (by rw [enm];exact hi)
 ·have hi':i < nm.length:=hi;have hv:=E.vk i (by rw [enm];exact hi) r';rw [een] at hv;show valV _ _=(za7 (en++[[(k:Int)+1,r,pts]]) i r').map V.int;rw [zb8 (by omega),zcw]
  by_cases z:i=k
  ·subst z;rw [if_pos rfl,ziw]
   by_cases zr:r'=r
   ·subst zr;rw [if_pos rfl,if_pos ⟨rfl,rfl⟩];rfl
   ·rw [if_neg (fun w=>zr (Sum.inl.inj w)),if_neg (fun w=>zr w.2.symm)];exact hv
  ·rw [if_neg z,if_neg (fun w=>z (by have h2:(k:Int)+1=(i:Int)+1:=w.1;omega))];exact hv
 ·have hi':i < nm.length:=hi;have hv:=E.sk i (by rw [enm];exact hi);rw [een] at hv;show _≤(en++[_]).length;rw [zb8 (by omega),length_append,length_singleton]
  by_cases z:i=k
  ·subst z;rw [if_pos rfl];have:=zcI (kvs.getD i []) (Sum.inl r:Key) (.int pts);omega
  ·rw [if_neg z];omega
theorem ExIn.third {nm en:LI} {k:Nat} {t:Int} (E:ExIn C H e st kvs) (hdl:st.dl=some (nm,en)) (hk:k < nm.length) {f s:Int} (hrow:nm.getD k []=[f,s]) (ht:1≤t∧t≤st.rs.length) (hn:t∉[f,s]) (hf:(za7 en k f).isSome=true) (hs':(za7 en k s).isSome=true) (b:But (e.qs.getD k 0) H H')
  (h1:H' (e.qs.getD k 0)=some (.lst ((nm.getD k []).map V.int++[.int t]))) :
  ExIn C H' e { st with dl:=some (nm.set k (nm.getD k []++[t]),en) } kvs:=by
 have N:=E.N;have enm:st.nm=nm:=by unfold ExS.nm;rw [hdl];rfl
 have een:st.en=en:=by unfold ExS.en;rw [hdl];rfl
 have lq:=E.lq;have lk:=E.lk;rw [enm] at lq lk;have hm:e.qs.getD k 0∈e.qs:=zdK (by omega);have ne:∀ {l},l∉e.qs→l≠e.qs.getD k 0:=fun h z=>h (z▸hm);have hs:st.dl.isSome=true:=by rw [hdl];rfl
 have ob:=E.ob;rw [hs] at ob;have ls:(nm.set k (nm.getD k []++[t])).length=nm.length:=length_set;refine ⟨by rw [b _ (ne N.xq)];exact ob,by rw [b _ (ne N.aq)];exact E.ha,by rw [b _ (ne N.bq)];exact E.hb,by rw [b _ (ne N.cq)];exact E.hc,by rw [b _ (ne N.dq)];exact E.hd,E.lp,lq.trans ls.symm,by have:=E.ld;rw [enm] at this;exact this.trans ls.symm,fun i hi=>?_,fun i hi=>?_,fun i hi=>?_,fun i hi r'=>?_,fun i hi=>?_,lk.trans ls.symm,E.nd,E.wf.ofThird hdl hk hrow ht hn hf hs'⟩
 ·rw [b _ (ne (N.pq _ (E.ip hi)))];exact E.rp i hi
 ·have hi':i < nm.length:=by rw [← ls];exact hi
  show H' _=some (.lst (((nm.set k (nm.getD k []++[t])).getD i []).map V.int));rw [zb8 hk]
  by_cases z:i=k
  ·subst z;rw [if_pos rfl,h1,map_append];rfl
  ·rw [if_neg z,b _ (fun w=>z (zcT N.nq (by omega) (by omega) w))];have:=E.rq i (by rw [enm];exact hi');rw [enm] at this;exact this
 ·have hi':i < nm.length:=by rw [← ls];exact hi
  rw [b _ (fun w=>N.qds _ hm (by rw [← w];exact E.is (by rw [enm];exact hi')))];exact E.rd i (by rw [enm];exact hi')
 ·have hi':i < nm.length:=by rw [← ls];exact hi
  have hv:=E.vk i (by rw [enm];exact hi') r';rw [een] at hv;exact hv
 ·have hi':i < nm.length:=by rw [← ls];exact hi
  have hv:=E.sk i (by rw [enm];exact hi');rw [een] at hv;exact hv
end
theorem Wf.n10 {st:ExS} (w:Wf st) (B:InB st.hs st.rs):st.nm.length≤10:=by
 cases h:st.dl with
 | none=>rw [zj5 h];exact zero_le _
 | some d=>rw [w.ln (by rw [h];rfl)];exact B.lp
theorem ExAt.wf {C x:Addr} {H:Hp} {F:Addr→Prop} {st:ExS} (E:ExAt C H x F st):Wf st:=by
 obtain ⟨e,kvs,_,_,I⟩:=E;exact I.wf
def zbC (nm en:LI) (k:Nat):List Int:=(nm.getD k []).filter fun r=>(za7 en k r).isNone
def zdL (nm en:LI) (k:Nat):List Int:=(nm.getD k []).map fun r=>(za7 en k r).getD 0
def zfF (st:ExS):List Int:=zco st.rs st.nm
theorem zj6 (nm en:LI) (k:Nat):(zdL nm en k).length=(nm.getD k []).length:=by unfold zdL;rw [length_map]
theorem zgj {nm en:LI} {k:Nat} (h:zbC nm en k=[]) {r:Int} (hr:r∈nm.getD k []):∃ p,za7 en k r=some p:=by
 cases e:za7 en k r with
 | some p=>exact ⟨p,rfl⟩
 | none =>
   have:r∈zbC nm en k:=mem_filter.mpr ⟨hr,by rw [e];rfl⟩;rw [h] at this
   cases this
end Prf
namespace L2
open PySem PySem.Spec PyProof.Rows
section
variable {X:Cx} {K:PySem.W.Frag}
variable {H:Hp} {Q:VK} {a:Addr} {ns:List Int}
end
end L2
namespace Prf
open PySem PySem.Spec PyProof.Rows L2
section
variable {H H':Hp} {l:LdA} {hs:List Int} {rs nm en:LI} {K:PySem.W.Frag}
end
end Prf
namespace L2
open PySem PySem.Spec PyProof.Rows
section
variable {X:Cx} {K:PySem.W.Frag}
def rEqE (K:PySem.W.Frag):R2:=fun x y H Q=>∃ a b xs,x=.ref a∧y=.ref b∧SqL K H a xs∧SqL K H b []∧Q (.bl (decide (xs=[]))) H
def rNeE (K:PySem.W.Frag):R2:=fun x y H Q=>∃ a b xs,x=.ref a∧y=.ref b∧SqL K H a xs∧SqL K H b []∧Q (.bl (!decide (xs=[]))) H
theorem zld (hu:X.A.units < cLine):OpR X (compareOp .Eq) (rEqE X.K):=by
 intro pins s σ H x y v u Q I rx ry h;obtain ⟨a,b,xs,rfl,rfl,h1,h2,q⟩:=h
 cases rx
 cases ry
 obtain ⟨its1,r1,p1,z1⟩:=I.list h1;obtain ⟨its2,r2,p2,z2⟩:=I.list h2;have l1:=r1.length;have l2:its2.length=0:=r2.length.symm
 by_cases hl:xs=[]
 ·subst hl;have l1':its1.length=0:=l1.symm;refine SeqAt.eq_listAt (e:=fun _=>true) p1.isList p2.isList (by simp;omega) hu (fun j h1 h2=>by simp at h1;omega) ⟨.bl _,H,I,rfl,?_⟩;rw [size_toArray,l1'];rw [decide_eq_true rfl] at q;exact q
 ·have:xs.length≠0:=fun z=>hl (List.eq_nil_of_length_eq_zero z);refine SeqAt.eq_list_lengthsAt p1.isList p2.isList (by simp;omega) hu ⟨.bl false,H,I,rfl,?_⟩;rw [decide_eq_false hl] at q;exact q
theorem zle (hu:X.A.units < cLine):OpR X (compareOp .NotEq) (rNeE X.K):=by
 intro pins s σ H x y v u Q I rx ry h;obtain ⟨a,b,xs,rfl,rfl,h1,h2,q⟩:=h
 cases rx
 cases ry
 obtain ⟨its1,r1,p1,z1⟩:=I.list h1;obtain ⟨its2,r2,p2,z2⟩:=I.list h2;have l1:=r1.length;have l2:its2.length=0:=r2.length.symm
 by_cases hl:xs=[]
 ·subst hl;have l1':its1.length=0:=l1.symm;refine SeqAt.RcNeAt.lists (e:=fun _=>true) p1.isList p2.isList (by simp;omega) hu (fun j h1 h2=>by simp at h1;omega) _ _ _ _ ⟨.bl _,H,I,rfl,?_⟩;rw [size_toArray,l1'];rw [decide_eq_true rfl] at q;exact q
 ·have:xs.length≠0:=fun z=>hl (List.eq_nil_of_length_eq_zero z);refine SeqAt.RcNeAt.lists_lengths p1.isList p2.isList (by simp;omega) hu _ _ _ _ ⟨.bl true,H,I,rfl,?_⟩;rw [decide_eq_false hl] at q;exact q
def rEq2 (K:PySem.W.Frag):R2:=fun x y H Q=>ziD K x y H Q∨rEqE K x y H Q
def rNe2 (K:PySem.W.Frag):R2:=fun x y H Q=>rNeG K x y H Q∨rNeE K x y H Q
theorem za4 (h:X.K=K) (hu:X.A.units < cLine):OpR X (compareOp .Eq) (rEq2 K):=(zjT h hu).or (h▸zld hu)
theorem zhV (h:X.K=K) (hu:X.A.units < cLine):OpR X (compareOp .NotEq) (rNe2 K):=(zkF h).or (h▸zle hu)
section
variable {H:Hp} {Q:VK} {i j:Int}
theorem zlf (q:Q (.bl (decide (i=j))) H):rEq2 K (.int i) (.int j) H Q:=.inl (zjU q)
theorem zlg {a b:Bool} (q:Q (.bl (decide (a=b))) H):rEq2 K (.bl a) (.bl b) H Q:=.inl (zjV q)
theorem zlh (q:Q (.bl (!decide (i=j))) H):rNe2 K (.int i) (.int j) H Q:=.inl (zjh q)
end
end
end L2
namespace Prf
open PySem PySem.Spec PyProof.Rows L2
def fitT (hs:List Int) (rs:LI) (left:List Int) (k:Int) (row:List Int) (i:Nat):Bool :=
 !decide ((rs.getD i []).getD 0 0=hs.getD (k-1).toNat 0) && decide (1≤left.getD i 0) && !decide ((i:Int)+1∈row)
def trd (fit:Nat→Bool) (n:Nat):Nat→Int
 | 0=>0
 | i+1=>if fit (n-(i+1))=true then ((n-(i+1):Nat):Int)+1 else trd fit n i
theorem zji {fit:Nat→Bool} {n k:Nat} (h:k < n):trd fit n (n-k)=if fit k=true then (k:Int)+1 else trd fit n (n-(k+1)):=by
 have e:n-k=(n-(k+1))+1:=by omega
 rw [e];show (if fit (n-(n-(k+1)+1))=true then ((n-(n-(k+1)+1):Nat):Int)+1 else _)=_;have e2:n-(n-(k+1)+1)=k:=by omega
 rw [e2]
def zbT (hs:List Int) (rs:LI) (left:List Int) (k:Int) (row:List Int):Int:=trd (fitT hs rs left k row) rs.length rs.length
theorem zeu {fit:Nat→Bool} {n:Nat}:∀ k,k≤n→(∀ j,j < k→fit j=false)→trd fit n n=trd fit n (n-k)
 | 0,_,_=>rfl
 | k+1,h,hb=>by
   rw [zeu k (by omega) (fun j hj=>hb j (by omega)),zji (by omega),hb k (by omega)];rfl
theorem zhW {fit:Nat→Bool} {n k:Nat} (hk:k < n) (h:fit k=true) (hb:∀ j,j < k→fit j=false):trd fit n n=(k:Int)+1:=by
 rw [zeu k (by omega) hb,zji hk,if_pos h]
theorem ziY {fit:Nat→Bool} {n:Nat} (hb:∀ j,j < n→fit j=false):trd fit n n=0:=by
 rw [zeu n (Nat.le_refl _) hb,Nat.sub_self];rfl
def zcU (st:ExS) (k:Nat):Bool:=decide ((st.nm.getD k []).length=2) && decide (zbC st.nm st.en k=[]) && !zeb ((zdL st.nm st.en k).getD 0 0) ((zdL st.nm st.en k).getD 1 0) st.step
theorem zhX {fit:Nat→Bool} {n:Nat}:∀ i,i≤n→0 < trd fit n i→∃ j,j < n∧fit j=true∧trd fit n i=(j:Int)+1
 | 0,_,h=>absurd h (by show ¬(0:Int) < 0;decide)
 | i+1,hi,h=>by
   unfold trd at h ⊢;split
   ·rename_i hf
    exact ⟨n-(i+1),by omega,hf,rfl⟩
   ·rename_i hf
    rw [if_neg hf] at h;exact zhX i (by omega) h
theorem zgL {hs:List Int} {rs:LI} {left row:List Int} {k:Int} (h:0 < zbT hs rs left k row):1≤zbT hs rs left k row∧zbT hs rs left k row≤rs.length∧zbT hs rs left k row∉row∧1≤left.getD (zbT hs rs left k row-1).toNat 0∧¬(rs.getD (zbT hs rs left k row-1).toNat []).getD 0 0=hs.getD (k-1).toNat 0:=by
 obtain ⟨j,hj,hf,e⟩:=zhX (fit:=fitT hs rs left k row) rs.length (Nat.le_refl _) h;have e':zbT hs rs left k row=(j:Int)+1:=e;rw [e'];unfold fitT at hf;simp only [Bool.and_eq_true,Bool.not_eq_true',decide_eq_false_iff_not,decide_eq_true_eq] at hf;have ej:((j:Int)+1-1).toNat=j:=by omega
 rw [ej];exact ⟨by omega,by omega,hf.2,hf.1.2,hf.1.1⟩
def zbG (st:ExS) (k:Nat):Int:=if zcU st k=true then zbT st.hs st.rs (zfF st) ((k:Int)+1) (st.nm.getD k []) else 0
def zbU (st:ExS) (k:Nat):ExS:=if 0 < zbG st k then { st with dl:=some (st.nm.set k (st.nm.getD k []++[zbG st k]),st.en) } else st
def entS (st:ExS) (k:Nat) (r p:Int):ExS:={ st with dl:=some (st.nm,st.en++[[(k:Int)+1,r,p]]) }
theorem ExFr.trans {H H1 H2:Hp} {F F1 F2:Addr→Prop} (a:ExFr H H1 F F1) (b:ExFr H1 H2 F1 F2):ExFr H H2 F F2 :=
 ⟨fun c o e n=>b.kp c o (a.kp c o e n) (fun z=>(a.fp c z).elim n fun z=>by rw [e] at z;cases z),fun c z=>(b.fp c z).elim (a.fp c) fun z=>by
  by_cases h:F c
  ·exact .inl h
  ·right
   cases hc:H c with
   | none=>rfl
   | some o=>rw [a.kp c o hc h] at z;cases z⟩
end Prf
namespace L2
open PySem PySem.Spec PyProof.Rows
section
variable {X:Cx} {K:PySem.W.Frag}
def rInN (K:PySem.W.Frag) (neg:Bool):R2:=fun x y H Q=>x=.non∧∃ p vs,y=.ref p∧SqL K H p vs∧(∀ v∈vs,∃ q ys,v=.ref q∧SqL K H q ys)∧Q (.bl neg) H
def rInR (K:PySem.W.Frag) (neg:Bool):R2:=fun x y H Q=>∃ (a p:Addr) (xs:List Int) (rows:LI),x=.ref a∧y=.ref p∧H a=some (.lst (xs.map V.int))∧LL K H p rows∧Q (.bl (if neg then !decide (xs∈rows) else decide (xs∈rows))) H
theorem zjj {pins:List (Addr×Obj)} {σ:St} {H:Hp} {s:Shared} {vs:List V} {its:List Value} (hu:X.A.units+1 < cLine) (I:Inv X pins σ H s) (r:Vals vs its) (h:∀ v∈vs,∃ q ys,v=.ref q∧SqL X.K H q ys):∀ y∈its.toArray,SeqAt.EqAt X.A.in1 s y .none false:=fun y hy=>by
 have hy':y∈its:=by simpa using hy
 obtain ⟨i,hi,e⟩:=getElem_of_mem hy';have hl:=r.length;obtain ⟨u,hu1,hu2⟩:=r.get (i:=i) (x:=vs[i]'(by omega)) (getElem?_eq_getElem (by omega));rw [getElem?_eq_getElem hi] at hu1;have e2:u=y:=by rw [← e];exact (Option.some.inj hu1).symm
 subst e2;obtain ⟨q,ys,hq,hs⟩:=h _ (getElem_mem (show i < vs.length by omega));rw [hq] at hu2
 cases hu2
 obtain ⟨_,_,pl,_⟩:=I.list hs;exact SeqAt.EqAt.list_none pl.isList hu
theorem zli (hu:X.A.units+1 < cLine):OpR X (compareOp .In) (rInN X.K false):=by
 intro pins s σ H x y v u Q I rx ry h;obtain ⟨rfl,p,vs,rfl,hq,hv,q⟩:=h
 cases rx
 cases ry
 obtain ⟨its,r,pl,hz⟩:=I.list hq;refine SeqAt.in_listAt (fun _=>false) pl.isList (zjj hu I r hv) ⟨.bl _,H,I,rfl,?_⟩;rw [show its.toArray.any (fun _=>false)=false by simp];exact q
theorem zhY (hu:X.A.units+1 < cLine):OpR X (compareOp .NotIn) (rInN X.K true):=by
 intro pins s σ H x y v u Q I rx ry h;obtain ⟨rfl,p,vs,rfl,hq,hv,q⟩:=h
 cases rx
 cases ry
 obtain ⟨its,r,pl,hz⟩:=I.list hq;refine SeqAt.notIn_listAt (fun _=>false) pl.isList (zjj hu I r hv) ⟨.bl _,H,I,rfl,?_⟩;rw [show its.toArray.any (fun _=>false)=false by simp];exact q
def rowE (H:Hp) (xs:List Int):Value→Bool
 | .ref q=>match H q with
   | some (.lst vs)=>decide (vs=xs.map V.int)
   | _=>false
 | _=>false
theorem map_int_inj:∀ {xs ys:List Int},xs.map V.int=ys.map V.int→xs=ys
 | [],[],_=>rfl
 | [],_::_,h=>by simp at h
 | _::_,[],h=>by simp at h
 | x::xs,y::ys,h=>by
   rw [map_cons,map_cons] at h;injection h with h1 h2;injection h1 with h1;rw [h1,map_int_inj h2]
theorem zl1 {pins:List (Addr×Obj)} {σ:St} {H:Hp} {s:Shared} {a q:Addr} {xs ys:List Int} {A:Around} (hu:A.units < cLine) (I:Inv X pins σ H s) (ha:H a=some (.lst (xs.map V.int))) (hq:H q=some (.lst (ys.map V.int))):SeqAt.EqAt A s (.ref q) (.ref a) (decide (ys=xs)):=by
 by_cases e:q=a
 ·subst e;rw [ha] at hq;have:=map_int_inj (HO.lst.inj (Option.some.inj hq));rw [decide_eq_true this.symm];exact SeqAt.EqAt.same _
 ·obtain ⟨its1,r1,p1,z1⟩:=I.list (SqL.of (K:=X.K) hq);obtain ⟨its2,r2,p2,z2⟩:=I.list (SqL.of (K:=X.K) ha);have l1:=r1.length;have l2:=r2.length;rw [length_map] at l1 l2;refine SeqAt.EqAt.of_refs e ?_
  by_cases hl:ys.length=xs.length
  ·have key:=SeqAt.RcAt.lists (A:=A) (e:=fun j=>eqV ((ys.map V.int).getD j .non) ((xs.map V.int).getD j .non)) p1.isList p2.isList (by simp;omega) hu (fun j h1 h2=>?_)
   ·have e1:its1.toArray.size=(ys.map V.int).length:=by simp;omega
    rw [e1,eqVs_all (by simp;omega),eqVs_ints] at key;exact key
   ·simp only [size_toArray] at h1 h2;have e1:(ys.map V.int)[j]? = some ((ys.map V.int).getD j .non):=by rw [getD_eq_getElem?_getD,getElem?_eq_getElem (by simp;omega)];rfl
    have e2:(xs.map V.int)[j]? = some ((xs.map V.int).getD j .non):=by rw [getD_eq_getElem?_getD,getElem?_eq_getElem (by simp;omega)];rfl
    obtain ⟨u1,a1,b1⟩:=r1.get e1;obtain ⟨u2,a2,b2⟩:=r2.get e2;have c1:its1.toArray[j]=u1:=by simpa [getElem?_eq_getElem h1] using a1
    have c2:its2.toArray[j]=u2:=by simpa [getElem?_eq_getElem h2] using a2
    rw [c1,c2];have fl:∀ zs:List Int,(zs.map V.int).all flatV=true:=fun zs=>by simp [flatV]
    exact zhf b1 b2 (all_eq_true.mp (fl _) _ (mem_of_getElem? e1)) (all_eq_true.mp (fl _) _ (mem_of_getElem? e2))
  ·rw [decide_eq_false (fun z=>hl (by rw [z]))];exact SeqAt.RcAt.lists_lengths p1.isList p2.isList (by simp;omega) hu
theorem zed {pins:List (Addr×Obj)} {σ:St} {H:Hp} {s:Shared} {a:Addr} {xs:List Int} {rows:LI} {ps:List Addr} {its:List Value} (hu:X.A.units+1 < cLine) (I:Inv X pins σ H s) (ha:H a=some (.lst (xs.map V.int))) (r:Vals (ps.map V.ref) its) (hl:ps.length=rows.length)
  (hr:∀ i,i < rows.length→H (ps.getD i 0)=some (.lst ((rows.getD i []).map V.int))):(∀ y∈its.toArray,SeqAt.EqAt X.A.in1 s y (.ref a) (rowE H xs y))∧its.toArray.any (rowE H xs)=decide (xs∈rows):=by
 have hlen:=r.length;rw [length_map] at hlen;have at_:∀ i (hi:i < its.length),its[i]=.ref (ps.getD i 0):=fun i hi=>by
  obtain ⟨u,hu1,hu2⟩:=r.get (i:=i) (x:=.ref (ps.getD i 0)) (by rw [getElem?_map,getElem?_eq_getElem (by omega),getD_eq_getElem?_getD,getElem?_eq_getElem (by omega)];rfl);rw [getElem?_eq_getElem hi] at hu1
  cases hu2
  exact Option.some.inj hu1
 have ev:∀ i,i < rows.length→rowE H xs (.ref (ps.getD i 0))=decide (rows.getD i []=xs):=fun i hi=>by
  unfold rowE;simp only [hr i hi];rw [decide_eq_decide];exact ⟨map_int_inj,fun z=>by rw [z]⟩
 refine ⟨fun y hy=>?_,?_⟩
 ·obtain ⟨i,hi,e⟩:=getElem_of_mem (show y∈its by simpa using hy);rw [← e,at_ i hi,ev i (by omega)];exact zl1 (A:=X.A.in1) hu I ha (hr i (by omega))
 ·rw [show its.toArray.any (rowE H xs)=its.any (rowE H xs) by simp,Bool.eq_iff_iff,any_eq_true,decide_eq_true_eq];constructor
  ·rintro ⟨y,hy,e⟩;obtain ⟨i,hi,e'⟩:=getElem_of_mem hy;rw [← e',at_ i hi,ev i (by omega)] at e;rw [← of_decide_eq_true e];rw [getD_eq_getElem?_getD,getElem?_eq_getElem (show i < rows.length by omega)];exact getElem_mem _
  ·intro h;obtain ⟨i,hi,e⟩:=L2.mem_getD (d:=[]) h;refine ⟨its[i]'(by omega),getElem_mem _,?_⟩;rw [at_ i (by omega),ev i hi,decide_eq_true e]
theorem zlj (hu:X.A.units+1 < cLine):OpR X (compareOp .In) (rInR X.K false):=by
 intro pins s σ H x y v u Q I rx ry h;obtain ⟨a,p,xs,rows,rfl,rfl,ha,⟨ps,hp,hl,hr⟩,q⟩:=h
 cases rx
 cases ry
 obtain ⟨its,r,pl,hz⟩:=I.list hp;obtain ⟨h1,h2⟩:=zed hu I ha r hl hr;refine SeqAt.in_listAt (rowE H xs) pl.isList h1 ⟨.bl _,H,I,rfl,?_⟩;rw [h2];exact q
theorem zhZ (hu:X.A.units+1 < cLine):OpR X (compareOp .NotIn) (rInR X.K true):=by
 intro pins s σ H x y v u Q I rx ry h;obtain ⟨a,p,xs,rows,rfl,rfl,ha,⟨ps,hp,hl,hr⟩,q⟩:=h
 cases rx
 cases ry
 obtain ⟨its,r,pl,hz⟩:=I.list hp;obtain ⟨h1,h2⟩:=zed hu I ha r hl hr;refine SeqAt.notIn_listAt (rowE H xs) pl.isList h1 ⟨.bl _,H,I,rfl,?_⟩;rw [h2];exact q
def rIn2 (K:PySem.W.Frag) (neg:Bool):R2:=fun x y H Q=>rIn K neg x y H Q∨(rInN K neg x y H Q∨rInR K neg x y H Q)
theorem zh0 (h:X.K=K) (hu:X.A.units+1 < cLine):OpR X (compareOp .In) (rIn2 K false):=(zkE h).or ((h▸zli hu).or (h▸zlj hu))
theorem ze0 (h:X.K=K) (hu:X.A.units+1 < cLine):OpR X (compareOp .NotIn) (rIn2 K true):=(zhr h).or ((h▸zhY hu).or (h▸zhZ hu))
end
section
variable {H:Hp} {K:PySem.W.Frag} {Q:VK} {i:Int} {a p:Addr}
theorem zlk {xs:List Int} (h:SqL K H a (xs.map V.int)) (q:Q (.bl (decide (i∈xs))) H):rIn2 K false (.int i) (.ref a) H Q:=.inl (zlW h q)
theorem zh1 {xs:List Int} (h:SqL K H a (xs.map V.int)) (q:Q (.bl (!decide (i∈xs))) H):rIn2 K true (.int i) (.ref a) H Q:=.inl (ziE h q)
end
end L2
namespace Prf
open PySem PySem.Spec PyProof.Rows L2
end Prf
namespace L2
open PySem PySem.Spec PyProof.Rows
section
variable {X:Cx} {K:PySem.W.Frag} {H:Hp} {Q:VK} {i:Int} {b:Bool}
end
end L2
namespace Prf
open PySem PySem.Spec PyProof.Rows L2
end Prf
namespace Prf
open PySem PySem.Spec PyProof.Rows L2
end Prf
namespace L2
open PySem PySem.Spec PyProof.Rows
def cutH (h:Heap) (l:List Addr):Heap:=⟨h.objs.mapIdx fun i o=>if i∈l then ⟨o.cls,o.dict,.freed,o.slots⟩ else o,h.life⟩
theorem zev {h:Heap} {l:List Addr} {b:Addr}:(cutH h l).get? b=if b∈l then none else h.get? b:=by
 unfold cutH Heap.get?;simp only [Array.getElem?_mapIdx]
 cases e:h.objs[b]? with
 | none=>simp
 | some o =>
   by_cases hb:b∈l
   ·simp [hb]
   ·simp [hb]
theorem zjk {P:Program} {w:World} {H:Hp} {h:Heap} {a:Addr}:∀ {o:HO},zbn P w H h a o→∃ u,h.get? a=some u
 | .lst _,⟨_,_,_,_,e⟩=>⟨_,e⟩
 | .tup _,⟨_,_,_,_,e,_⟩=>⟨_,e⟩
 | .dK _,⟨_,_,_,_,_,_,_,e,_⟩=>⟨_,e⟩
 | .dT _,⟨_,_,_,_,_,_,_,e,_⟩=>⟨_,e⟩
 | .set _ _,⟨_,_,_,_,e,_⟩=>⟨_,e⟩
 | .ins _ _ _,⟨_,_,_,e,_⟩=>⟨_,e⟩
 | .own _,x=>x
 | .xd _,⟨_,⟨_,_,_,e,_⟩,_⟩=>⟨_,e⟩
 | .rng _ _,⟨_,_,_,e⟩=>⟨_,e⟩
 | .frz _ _,⟨e,_⟩=>⟨_,e⟩
 | .tbl _,e=>⟨_,e⟩
 | .met _ _,e=>⟨_,e⟩
 | .ext _,⟨_,⟨_,e⟩,_⟩=>⟨_,e⟩
structure Cov (P:Program) (w:World) (l:List Env) (H:Hp) (h0:Heap) (H':Hp) (B h:Heap):Prop where
 un:Un (frs l) [] H H' h0 h
 hok:HOk P w H' h
 frf:∀ b∈frs l,H' b=none
 cov:∀ b o,h.get? b=some o→(H' b≠none∨∃ o',h0.get? b=some o')→b∉frs l→B.get? b=some o
section
variable {P:Program} {w:World} {l:List Env} {H H':Hp} {h0 B h h':Heap}
theorem Cov.step (C:Cov P w l H h0 H' B h) (fr:h.FunFrames B l) (st:B.StaysIn h') (up:h.UpToSlots h'):Cov P w l H h0 H' B h':=by
 have kp:∀ b o,h.get? b=some o→(H' b≠none∨∃ o',h0.get? b=some o')→b∉frs l→h'.get? b=some o:=fun b o e c n=>st b o (C.cov b o e c n);have slots:∀ b o,h.get? b=some o→b∈frs l→∃ sl,h'.get? b=some { o with slots:=sl }:=fun b o e m=>by
  obtain ⟨_,o2,e2,d2⟩:=fr.mem m;rw [e] at e2;cases e2
  exact up b o e d2
 refine ⟨⟨fun b o e n m _=>?_,fun b o e n m x=>?_,C.un.free,fun b o e x=>?_,C.un.tups,C.un.frzs,C.un.tbls⟩,fun a o e=>?_,C.frf,fun b o e c n=>?_⟩
 ·exact kp b o (C.un.keep b o e n m (by simp)) (.inr ⟨o,e⟩) m
 ·obtain ⟨sl,e1⟩:=C.un.slot b o e n m x;obtain ⟨sl2,e2⟩:=slots b _ e1 m;exact ⟨sl2,e2⟩
 ·obtain ⟨o1,e1⟩:=C.un.there b o e x
  by_cases m:b∈frs l
  ·obtain ⟨sl,e2⟩:=slots b _ e1 m;exact ⟨_,e2⟩
  ·exact ⟨o1,kp b o1 e1 (.inr ⟨o,e⟩) m⟩
 ·refine (C.hok a o e).stay (fun b u hb q=>?_) (fun _ q=>q) fun _ _ q=>q;have hH:H' b≠none:=by
   rcases hb with rfl | z
   ·rw [e];simp
   ·rw [z];simp
  exact kp b u q (.inl hH) fun m=>hH (C.frf b m)
 ·have e1:∃ o1,h.get? b=some o1:=by
   rcases c with c | ⟨o',e'⟩
   ·cases hb:H' b with
    | none=>exact absurd hb c
    | some u =>
      exact zjk (C.hok b u hb)
   ·exact C.un.there b o' e' (by simp)
  obtain ⟨o1,e1⟩:=e1;have e2:=C.cov b o1 e1 c n;have e3:=st b o1 e2;rw [e] at e3;cases e3
  exact e2
end
structure Fly (P:Program) (w:World) (l:List Env) (H:Hp) (s:Shared) (H':Hp) (e:Addr) (cls:Value) (s':Shared):Prop where
 os:s'.os=s.os
 bare:AllBare s'.gens
 fl:∃ (B:Heap) (a0:Value),Heap.FlyingW B l e cls a0 s'.heap∧Cov P w l H s.heap H' B s'.heap
def CX1 (P:Program) (w:World):CXT:=fun l H s E e s'=>∃ a cls H',e=.ref a∧Fly P w l H s H' a cls s'∧E cls none H'
section
variable {P:Program} {w:World} {K:PySem.W.Frag} {mg:Str→Option Value} {base:Heap} {N:List Str} {qual:Str} {scope:Scope} {f:Addr} {cd:Value} {A:Around} {outer:List Env} {s:Shared} {H:Hp} {E:XK}
theorem zh2 {pins:List (Addr×Obj)} {σ:St} {H1 H2:Hp} {s1:Shared} {B h2 h':Heap} (I:Inv (cxOf (CX1 P w) P w K mg base N qual scope f cd A outer s H E) pins σ H1 s1)
  (C:Cov P w (envOfC qual scope s.heap.objs.size f cd::outer) H1 s1.heap H2 B h2) (fr:h2.FunFrames B (envOfC qual scope s.heap.objs.size f cd::outer)) (st:B.StaysIn h') (up:h2.UpToSlots h'):Cov P w outer H s.heap H2 B h':=by
 have C':=C.step fr st up;have hfs:∀ b,b∈frs (envOfC qual scope s.heap.objs.size f cd::outer)↔b=s.heap.objs.size∨b∈frs outer:=fun b=>by
  show b∈s.heap.objs.size::frs outer↔_;exact mem_cons
 have nL:∀ {b:Addr} {o:Obj},s.heap.get? b=some o→b≠s.heap.objs.size:=fun e=>Nat.ne_of_lt (Heap.lt_size e);have bs:=I.base;have nx:∀ b:Addr,b∉([]:List Addr):=fun b=>by simp
 refine ⟨⟨fun b o e n m x=>?_,fun b o e n m x=>?_,fun b o e n x=>?_,fun b o e x=>?_,fun b xs q=>C'.un.tups b xs (bs.tups b xs q),fun b o u q=>C'.un.frzs b o u (bs.frzs b o u q),fun b ps q=>?_⟩,C'.hok,fun b m=>C'.frf b ((hfs b).mpr (.inr m)),fun b o e c n=>?_⟩
 ·have e1:=bs.keep b o e n m (nx b);exact C'.un.keep b o e1 (bs.free b o e n (nx b)) (fun z=>((hfs b).mp z).elim (nL e) m) (nx b)
 ·obtain ⟨sl,e1⟩:=bs.slot b o e n m (nx b);obtain ⟨sl2,e2⟩:=C'.un.slot b _ e1 (bs.free b o e n (nx b)) ((hfs b).mpr (.inr m)) (nx b);exact ⟨sl2,e2⟩
 ·obtain ⟨o1,e1⟩:=bs.there b o e (nx b);exact C'.un.free b o1 e1 (bs.free b o e n (nx b)) (nx b)
 ·obtain ⟨o1,e1⟩:=bs.there b o e (nx b);exact C'.un.there b o1 e1 (nx b)
 ·obtain ⟨m1,e1⟩:=bs.tbls b ps q;obtain ⟨m2,e2⟩:=C'.un.tbls b _ e1;exact ⟨m1++m2,by rw [e2,Array.append_assoc]⟩
 ·refine C'.cov b o e (c.imp (fun z=>z) fun ⟨o',e'⟩=>bs.there b o' e' (nx b)) fun z=>?_;rcases (hfs b).mp z with z | z
  ·rcases c with c | ⟨o',e'⟩
   ·exact c (C'.frf b ((hfs b).mpr (.inl z)))
   ·exact nL e' z
  ·exact n z
theorem passX:zcA (CX1 P w) (cxOf (CX1 P w) P w K mg base N qual scope f cd A outer s H E) E:=by
 rintro pins σ H1 s1 e s2 I ⟨a,cls,H2,rfl,⟨os,bare,B,a0,F,C⟩,q⟩;have hfr:=I.ok.frames;show wpAny (model P w) (A.deeper (envOfC qual scope s.heap.objs.size f cd)) (leaving (envOfC qual scope s.heap.objs.size f cd) (.ref a)) _ _ s2;refine wpAny_leaves_onW (L:=s.heap.objs.size) hfr rfl F fun h' F' up=>?_;exact ⟨a,cls,H2,rfl,⟨os.trans I.os,bare,B,a0,F',zh2 I C F.2.2.1 F'.1 up⟩,q⟩
def ExcC (K:PySem.W.Frag) (C:Addr):Prop:=PySem.W.excIn K C [.type "ValueError",.type "Exception",.type "BaseException",.type "object"] "ValueError.__new__"=true
def zjl (E:XK) (C:Addr):TS:=fun _ _ H=>E (.ref C) none H
theorem zll {h:Heap} {C:Addr} (X:K.In h) (q:ExcC K C):∃ nm qn N bs bm hd sn sub ab col dd k0 k1 k2 k3 k5 mN,
  h.get? C=some (excClassObj nm qn C N bs bm hd sn sub ab col dd k0 k1 k2 k3 k5 "ValueError.__new__")∧h.Ns N mN∧mN "__init__"=none∧OwnTail h [.type "ValueError",.type "Exception",.type "BaseException",.type "object"] bm:=by
 unfold ExcC PySem.W.excIn at q;split at q
 next dd cd sl ho =>
  split at q
  next C' bm k0 k1 k2 k3 n k5 hm hs =>
   obtain ⟨nm,bs,mro,ns,qn,hd,sn,sub,ab,col,del⟩:=cd;obtain ⟨ls⟩:=sl;simp only [Bool.and_eq_true,beq_iff_eq,Bool.not_eq_true'] at q hm hs;obtain ⟨⟨⟨⟨⟨q1,q2⟩,q3⟩,q4⟩,q5⟩,q6⟩:=q;subst q1 q2 q3 hm hs;exact ⟨nm,qn,ns,bs,bm,hd,sn,sub,ab,col,dd,k0,k1,k2,k3,k5,_,X _ _ ho,.of_isNs (PySem.W.isNs_of_in X q5),PySem.W.nsMap_none_of_in X q5 q6,PySem.W.tail_of_in X q4⟩
  next=>cases q
 next=>cases q
theorem ziZ {env:Env} {l:List Env} {b:Addr} (z:b∈frs l):b∈frs (env::l):=by
 obtain ⟨e,m,q⟩:=List.mem_filterMap.mp z;exact List.mem_filterMap.mpr ⟨e,mem_cons_of_mem _ m,q⟩
theorem zee {h b0 B:Heap}:∀ {l:List Env},h.FunFrames b0 l→(∀ b∈frs l,B.get? b=none)→h.FunFrames B l
 | [],_,_=>trivial
 | env::l,⟨k,⟨L,o,hf,_,ho,hd⟩,r⟩,hb=>⟨k,⟨L,o,hf,hb L (List.mem_filterMap.mpr ⟨env,mem_cons_self,hf⟩),ho,hd⟩,zee r fun b z=>hb b (ziZ z)⟩
theorem zcx {x msg:Str} {np cpos pos kpos:Pos} {j:Nat} {C:Addr} (hg:Gl (cxOf (CX1 P w) P w K mg base N qual scope f cd A outer s H E) x) (hm:mg x=some (.ref C)) (hc:ExcC K C) (hdb:(x == ("__debug__" : Str))=false:=by decide) :
  PS (cxOf (CX1 P w) P w K mg base N qual scope f cd A outer s H E) (.Raise (some (.Call (.Name x np) [.Constant (.str msg) j kpos] [] cpos)) none pos) (zjl E C):=by
 intro pins s1 σ H1 D I h;obtain ⟨nm,qn,Nn,bs,bm,hd,sn,sub,ab,col,dd,k0,k1,k2,k3,k5,mN,hC,hN,hni,T⟩:=zll I.mod.kin hc;refine wpAny_Raise_call_subT PySem.F.excBase_ValueError (C:=C) (nm:=nm) (q:=qn) (N:=Nn) (bs:=bs) (bm:=bm) (hdct:=hd) (sn:=sn) (sub:=sub) (ab:=ab) (col:=col) (dd:=dd) (k0:=k0) (k1:=k1) (k2:=k2) (k3:=k3) (k5:=k5)
  (mN:=mN) (T.hasType PySem.F.excBase_ValueError.hasBase) (I.ok.hd rfl) rfl hni (zcH I hg hm ⟨rfl,?_⟩ hdb)
 refine Calls.evalArgs_plain (thn ((zaa zkk pa_nil:PA (cxOf (CX1 P w) P w K mg base N qual scope f cd A outer s H E) [.Constant (.str msg) j kpos] _) cpos pins s1 σ H1 (fun vs H2=>vs.length=1∧H2=H1) I ⟨rfl,rfl⟩) fun us s2 ⟨vs,H2,I2,r,hl,eH⟩=>?_);subst eH;refine ⟨rfl,by rw [← r.length,hl];decide,I2.bk _ _ hC,hN.keeps I2.bk,T.keeps I2.bk,fun h' e hx=>?_⟩;have hfr:=I2.ok.frames;have hsf:∀ b∈frs (envOfC qual scope s.heap.objs.size f cd::outer),H2 b=none:=I2.stkFree;have hst:s2.heap.FunFrames (cutH s2.heap (frs (envOfC qual scope s.heap.objs.size f cd::outer))) (envOfC qual scope s.heap.objs.size f cd::outer):=zee I2.stack fun b hb=>by rw [zev,if_pos hb]
 show wpAny (model P w) (A.deeper (envOfC qual scope s.heap.objs.size f cd)) (leaving (envOfC qual scope s.heap.objs.size f cd) (.ref e)) _ _ { s2 with heap:=h' };refine wpAny_leaves_madeW (L:=s.heap.objs.size) hfr rfl (fun b o q=>by rw [zev] at q;split at q;cases q;exact q) hst hx fun h'' tt F' _ _ up=>?_;refine ⟨e,.ref C,H2,rfl,⟨I2.os,I2.bare,_,_,F',zh2 I2 (h2:=h') ⟨Un.kept hx.keeps,I2.hok.kept hx.keeps,hsf,fun b o q c n=>?_⟩ (hst.of_keeps fun b o q _=>⟨o,hx.keeps b o q,rfl⟩) F'.1 up⟩,h⟩;have e1:∃ o1,s2.heap.get? b=some o1:=by
  rcases c with c | c
  ·cases hb:H2 b with
   | none=>exact absurd hb c
   | some u=>exact zjk (I2.hok b u hb)
  ·exact c
 obtain ⟨o1,e1⟩:=e1;have e2:=hx.keeps b o1 e1;rw [q] at e2;cases e2
 rw [zev,if_neg n];exact e1
end
end L2
namespace L2
open PySem PySem.Spec PyProof.Rows
section
variable {P:Program} {w:World} {K:PySem.W.Frag} {mg:Str→Option Value} {base:Heap}
theorem Fun.okX {x qual:Str} {st:Stmt} {f:Addr} {fd:FuncData} {N ps:List Str} {k:Nat} {sp:Sp} (F:Fun K x qual st f fd) (S:zal N ps (zac st)) (len:∀ vs H Q E,sp vs H Q E→vs.length=ps.length)
  (hb:∀ (cdv:Value) (A:Around) (outer:List Env) (s:Shared) (H:Hp) (vs:List V) (Q:VK) (E:XK),Room k (A.deeper (envOfC qual (zac st) s.heap.objs.size f cdv))→sp vs H Q E →
   ∃ t,PSs (cxOf (CX1 P w) P w K mg base N qual (zac st) f cdv A outer s H E) (zak st) t∧t ⟨fun _ H'=>Q .non H',Q,fun _ _=>False,fun _ _=>False⟩ (start N vs) H):FnOk P w K mg base (CX1 P w) (k+1) f fd ps sp:=by
 obtain ⟨oc,od,kV,doc,pm,an,cdv,ct,osl,rfl,lk,hcd⟩:=F.ex;exact zkw lk hcd S len fun A outer s H vs Q E hr hsp=>hb cdv A outer s H vs Q E hr hsp
end
theorem ze1 {X:Cx} {P:Program} {w:World}:zcA (CX1 P w) X E0:=fun _ _ _ _ _ _ _ ⟨_,_,_,_,_,q⟩=>q.elim
section
variable {X:Cx} {pins:List (Addr×Obj)} {σ:St} {H:Hp} {s:Shared}
def HS (X:Cx) (pins:List (Addr×Obj)) (σ:St) (H:Hp) (a:Addr) (cls:Value) (s:Shared):Prop:=∃ s0 H0,Inv X pins σ H0 s0∧Fly X.prog X.w X.stack H0 s0 H a cls s
theorem HS.inv {a:Addr} {cls:Value} (h:HS X pins σ H a cls s):Inv X pins σ H s:=by
 obtain ⟨s0,H0,I,os,bare,B,a0,F,C⟩:=h;exact I.call' os C.un C.hok bare fun b z=>absurd z (by simp)
theorem HS.step {a:Addr} {cls:Value} (h:HS X pins σ H a cls s) {Q:Unit→Shared→Prop} {A:Around} {E:Value→Shared→Prop} (q:∀ h',HS X pins σ H a cls { s with heap:=h' }→Q () { s with heap:=h' }):wpAny (model X.prog X.w) A (setFlight (.ref a) none) Q E s:=by
 obtain ⟨s0,H0,I,os,bare,B,a0,F,C⟩:=h;exact lands_againW F fun h' F' up=>q h' ⟨s0,H0,I,os,bare,B,a0,F',C.step F.2.2.1 F'.1 up⟩
def WX (X:Cx) (σ:St) (cls:Value) (H:Hp):Prop:=∀ pins a s,HS X pins σ H a cls s→X.xe (.ref a) s
def EX (X:Cx) (σ:St):XK:=fun cls _ H=>WX X σ cls H
variable {k:Nat} {f C:Addr} {fd:FuncData} {ps:List Str} {sp:Sp} {x m:Str} {p pos apos:Pos} {e o:Expr} {es:List Expr} {ta:TE} {t:TA}
theorem zj7 {Q:VK} {us:List Value} {vs:List V} (F:FnOk X.prog X.w X.K X.mg X.base (CX1 X.prog X.w) k f fd ps sp) (hr:Room k X.A) (hb:Binds X.K fd ps []) (I:Inv X pins σ H s) (r:Vals vs us) (h:sp (vs++[]) H Q (EX X σ)) :
  wpAny (model X.prog X.w) X.A (call (.ref f) us) (EP X pins σ Q) X.xe s:=by
 have r2:Vals (vs++[]) (us++[]):=r.append .nil;have hl:(us++[]).length=ps.length:=by rw [← r2.length];exact F.len _ _ _ _ h
 refine wpAny_call (codeAny_mono (F.run X.A X.stack s H ⟨us,[]⟩ (us++[]) (vs++[]) Q (EX X σ) hr I.env0 (hb s us I.kIn hl) r2 h) fun r s' hq=>?_)
 match r,hq with
 | .error _,hq =>
   obtain ⟨a,cls,H',rfl,fly,q⟩:=hq;exact q pins a s' ⟨s,H,I,fly⟩
 | .ok (.ret u),hq=>exact I.after hq
 | .ok .next,hq=>exact False.elim hq
 | .ok .brk,hq=>exact False.elim hq
 | .ok .cont,hq=>exact False.elim hq
def zjm (X:Cx) (sp:Sp) (t:TA):TE:=fun σ H Q=>zis sp [] (EX X σ) t σ H Q
theorem zi0 (F:FnOk X.prog X.w X.K X.mg X.base (CX1 X.prog X.w) k f fd ps sp) (hr:Room k X.A) (hg:Gl X x) (hm:X.mg x=some (.ref f)) (hk:keepIn X.K (.ref f)=true) (hb:Binds X.K fd ps []) (ha:PA X (e::es) t)
  (hdb:(x == ("__debug__" : Str))=false:=by decide) (he:starEach (e::es) X.env=(false,eval e X.env)::starEach es X.env:=by rfl) (hpl:(backTo pos (starEach es X.env)).any (·.1)=false:=by rfl) :
  PE X (.Call (.Name x p) (e::es) [] pos) (zjm X sp t):=by
 intro pins s σ H Q I h;refine wpAny_Call_Name_kw (zcH I hg hm ?_ hdb);refine callWith_K (h₀:=X.base) I.ok.mod.kin hk (thn (ha pos pins s σ H _ I h) fun us s1 ⟨vs,H1,I1,r,q⟩=>⟨I1.kIn,?_⟩) he hpl;exact zj7 F hr hb I1 r q
abbrev Cx.held (X:Cx) (v:Option Value):Cx:={ X with A:=X.A.mark v,calm:=false }
theorem Inv.held (I:Inv X pins σ H s) (v:Option Value):Inv (X.held v) pins σ H s :=
 ⟨⟨I.ok.mod,I.ok.kind,I.ok.glob,I.ok.blt,I.ok.above,I.ok.inj,I.ok.has,I.ok.cab,fun z=>(by cases z),I.ok.frames,I.ok.stk,I.ok.exf,I.ok.bs,I.ok.bsz,I.ok.noex,I.ok.exfs,I.ok.funs,I.ok.frf⟩,I.os,I.bare,I.base,I.loc,I.cell,I.free,I.freeC,I.pin,I.hok,I.len⟩
theorem Inv.unheld {v:Option Value} (ok:X.Ok) (I:Inv (X.held v) pins σ H s):Inv X pins σ H s:=⟨ok,I.os,I.bare,I.base,I.loc,I.cell,I.free,I.freeC,I.pin,I.hok,I.len⟩
theorem SP.unheld {v:Option Value} (ok:X.Ok) {D:Ends} {f:Flow} {s':Shared} (h:SP (X.held v) pins D f s'):SP X pins D f s':=by
 cases f with
 | next=>obtain ⟨σ',H',I,q⟩:=h;exact ⟨σ',H',I.unheld ok,q⟩
 | brk=>obtain ⟨σ',H',I,q⟩:=h;exact ⟨σ',H',I.unheld ok,q⟩
 | cont=>obtain ⟨σ',H',I,q⟩:=h;exact ⟨σ',H',I.unheld ok,q⟩
 | ret u=>obtain ⟨v,σ',H',I,r,q⟩:=h;exact ⟨v,σ',H',I.unheld ok,r,q⟩
def PH (X:Cx) (hs:List ExceptHandler) (th:Value→TS):Prop:=∀ pins s σ H D a cls,HS X pins σ H a cls s→th cls D σ H→wpAny (model X.prog X.w) X.A (handleBy (.ref a) X.env hs) (SP X pins D) X.xe s
def tTry (X:Cx) (tb:(Value→Shared→Prop)→List (Addr×Obj)→TS) (th:Value→TS):TS:=fun D σ H=>∀ xe pn,(∀ cls σ' H',th cls D σ' H'→WX { X with xe:=xe,pn:=pn } σ' cls H')→tb xe pn D σ H
theorem zlm {body:List Stmt} {h0:ExceptHandler} {hs:List ExceptHandler} {tb:(Value→Shared→Prop)→List (Addr×Obj)→TS} {th:Value→TS} (hst:X.stack=X.env::X.outer∧X.env.frame=some X.env.locals)
  (hb:∀ xe pn,PSs { X with xe:=xe,pn:=pn } body (tb xe pn)) (hh:PH X (h0::hs) th):PS X (.Try body (h0::hs) [] [] pos) (tTry X tb th):=by
 intro pins s σ H D I hq;have hpin:∀ {xe pins' σ' H' s'},Inv { X with xe:=xe,pn:=X.pn++pins } pins' σ' H' s'→Inv X pins σ' H' s':=fun J =>
  ⟨I.ok,J.os,J.bare,J.base,J.loc,J.cell,J.free,J.freeC,fun p hp=>J.pin p (mem_append_left _ hp),J.hok,J.len⟩
 have I':∀ xe,Inv { X with xe:=xe,pn:=X.pn++pins } [] σ H s:=fun xe =>
  ⟨⟨I.ok.mod,I.ok.kind,I.ok.glob,I.ok.blt,I.ok.above,I.ok.inj,I.ok.has,I.ok.cab,I.ok.hd,I.ok.frames,I.ok.stk,I.ok.exf,I.ok.bs,I.ok.bsz,I.ok.noex,I.ok.exfs,I.ok.funs,I.ok.frf⟩,I.os,I.bare,I.base,I.loc,I.cell,I.free,I.freeC,fun p hp=>I.pin p (by simpa using hp),I.hok,I.len⟩
 let xe:Value→Shared→Prop:=fun e s₁=>wpAny (model X.prog X.w) X.A (noteFrame e X.env) (fun _ s₂=>wpAny (model X.prog X.w) X.A (setFlight e none) (fun _ s₃=>wpAny (model X.prog X.w) X.A (handleBy e X.env (h0::hs)) (SP X pins D) X.xe s₃) X.xe s₂) X.xe s₁
 refine wpAny_Try_except (wpAny_mono (hb xe (X.pn++pins) [] s σ H D (I' xe) (hq xe (X.pn++pins) fun cls σ' H' z pins' a s' hs'=>?_)) (fun f s1 z=>?_) fun e s1 z=>z)
 ·obtain ⟨s0,H0,J,os,bare,B,a0,F,C⟩:=hs';have hfr:X.A.frames=some (X.env::X.outer):=by rw [← hst.1];exact I.ok.frames
  have F':Heap.FlyingW B (X.env::X.outer) a cls a0 s'.heap:=by rw [← hst.1];exact F
  show wpAny (model X.prog X.w) X.A (noteFrame (.ref a) X.env) _ X.xe s';refine wpAny_looks_onW hfr hst.2 F' fun h4 F4 up4=>wpAny_landsW F4 fun h5 F5 up5=>?_;exact hh pins _ σ' H' D a cls ⟨s0,H0,hpin J,os,bare,B,a0,by rw [hst.1];exact F5,C.step F.2.2.1 F5.1 (up4.trans up5)⟩ z
 ·have back:SP X pins D f s1:=by
   cases f with
   | next=>obtain ⟨σ',H',J,q⟩:=z;exact ⟨σ',H',hpin J,q⟩
   | brk=>obtain ⟨σ',H',J,q⟩:=z;exact ⟨σ',H',hpin J,q⟩
   | cont=>obtain ⟨σ',H',J,q⟩:=z;exact ⟨σ',H',hpin J,q⟩
   | ret u=>obtain ⟨v,σ',H',J,r,q⟩:=z;exact ⟨v,σ',H',hpin J,r,q⟩
  cases f with
  | next=>exact wpAny_execs_nil back
  | brk=>exact back
  | cont=>exact back
  | ret u=>exact back
end
end L2
namespace L2
open PySem PySem.Spec PyProof.Rows
structure XAd where
 OutOfTime:Addr
 UnknownNumber:Addr
 NotDue:Addr
 OutOfBounds:Addr
 Full:Addr
 ReadError:Addr
section
variable {X:Cx} {K:PySem.W.Frag} {C:Addr} {m:Str} {sp:Sp} {ta:TE} {tl:TA} {σ:St} {H:Hp} {Q:VK} {E:XK} {D:Ends} {tb:(Value→Shared→Prop)→List (Addr×Obj)→TS} {th:Value→TS} {ts:TS} {cls:Value}
theorem zh3 (h:tl σ H fun vs H1=>sp vs H1 Q (EX X σ)):zjm X sp tl σ H Q:=zjg h
theorem zh4 (h:E (.ref C) none H):zjl E C D σ H:=h
theorem zl2 (h:∀ xe pn,(∀ cls σ' H',th cls D σ' H'→EX { X with xe:=xe,pn:=pn } σ' cls none H')→tb xe pn D σ H):tTry X tb th D σ H:=h
end
end L2
namespace L2
open PySem PySem.Spec PyProof.Rows
inductive Rf where | time | unknown | notdue | bounds | full
def XAd.at (xa:XAd):Rf→Addr
 | .time=>xa.OutOfTime
 | .unknown=>xa.UnknownNumber
 | .notdue=>xa.NotDue
 | .bounds=>xa.OutOfBounds
 | .full=>xa.Full
section
variable {K:PySem.W.Frag} {H:Hp} {Q:VK} {a b:Str}
end
end L2
namespace Prf
open PySem PySem.Spec PyProof.Rows L2
def whyP (st:ExS) (h:Int):Option Rf:=if st.dl.isSome=true then some .time else if 1≤h∧h≤6 then (if st.hs.length < 10 then none else some .full) else some .unknown
def whyR (st:ExS) (h l:Int):Option Rf:=if st.dl.isSome=true then some .time else if 0≤h∧h≤6 then (if 0≤l∧l≤30 then (if st.rs.length < 8 then none else some .full) else some .bounds) else some .unknown
def whyS (st:ExS) (s:Int):Option Rf:=if st.dl.isSome=true then some .time else if 0≤s∧s≤100 then none else some .bounds
def whyD (st:ExS):Option Rf:=if st.dl.isSome=true then some .time else none
def whyE (st:ExS) (k r p:Int):Option Rf:=if st.dl.isSome=true then (if (1≤k∧k≤st.hs.length)∧1≤r∧r≤st.rs.length then (if r∈zbC st.nm st.en (k-1).toNat then (if 0≤p∧p≤100 then none else some .bounds) else some .notdue) else some .unknown) else some .time
theorem ze2 {st:ExS} {h:Int} (hd:st.dl=none) (hp:1≤h∧h≤6∧st.hs.length < 10):whyP st h=none:=by
 unfold whyP;rw [hd,if_neg (by decide),if_pos ⟨hp.1,hp.2.1⟩,if_pos hp.2.2]
theorem ze3 {st:ExS} {h l:Int} (hd:st.dl=none) (hp:0≤h∧h≤6∧0≤l∧l≤30∧st.rs.length < 8):whyR st h l=none:=by
 unfold whyR;rw [hd,if_neg (by decide),if_pos ⟨hp.1,hp.2.1⟩,if_pos ⟨hp.2.2.1,hp.2.2.2.1⟩,if_pos hp.2.2.2.2]
theorem ze4 {st:ExS} {s:Int} (hd:st.dl=none) (hp:0≤s∧s≤100):whyS st s=none:=by
 unfold whyS;rw [hd,if_neg (by decide),if_pos hp]
theorem ze5 {st:ExS} (hd:st.dl=none):whyD st=none:=by
 unfold whyD;rw [hd,if_neg (by decide)]
theorem ze6 {st:ExS} {k r p:Int} (w:Wf st) (hd:st.dl.isSome=true) (k1:1≤k) (k2:k≤st.nm.length) (hr:r∈zbC st.nm st.en (k-1).toNat) (p0:0≤p) (p1:p≤100):whyE st k r p=none:=by
 have hk:(k-1).toNat < st.nm.length:=by omega
 have hl:=w.ln hd;have hrr:=(w.row _ hk).rng (mem_filter.mp hr).1;unfold whyE;rw [if_pos hd,if_pos ⟨⟨k1,by omega⟩,hrr.1,by omega⟩,if_pos hr,if_pos ⟨p0,p1⟩]
theorem zew {st:ExS} (h:¬st.dl.isSome=true):st.dl=none:=by
 cases e:st.dl with
 | none=>rfl
 | some _=>rw [e] at h;exact absurd rfl h
section
variable {C:Addr} {H0 H H' H1 H2:Hp} {x a b r:Addr} {F F':Addr→Prop} {st st':ExS} {ps:List Addr} {hs:List Int} {rs:LI} {h:Int} {row:List Int}
theorem InB.addR {h l:Int} (B:InB hs rs) (hl:rs.length < 8) (h1:0≤h∧h≤6) (l1:0≤l∧l≤30):InB hs (rs++[[h,l]]):=by
 refine ⟨B.lp,by rw [length_append,length_singleton];omega,B.hh,fun i hi=>?_,fun i hi=>?_,fun i hi=>?_⟩ <;>
 ·rw [length_append,length_singleton] at hi
  by_cases e:i < rs.length
  ·rw [zaF e];first | exact B.r2 i e | exact B.rh i e | exact B.rl i e
  ·have:i=rs.length:=by omega
   subst this;rw [zaG];first | rfl | exact h1 | exact l1
end
end Prf
namespace L2
open PySem PySem.Spec PyProof.Rows
section
variable {X:Cx} {K:PySem.W.Frag}
variable {H:Hp} {Q:VK} {σ:St} {p:Addr} {xs:List V} {i:Int} {v:V} {tl:TA}
end
end L2
namespace Prf
open PySem PySem.Spec PyProof.Rows L2
def one (b:Bool) (w:Str):List Str:=if b=true then [w] else []
end Prf
namespace L2
section
open PySem PySem.Calls PyProof.Rows PySem.W PySem.Builtin PySem.Builtin.ObjectAttr PySem.Builtin.Getset_descriptor
variable {prog:Program} {w:World} {A:Around} {E:Value→Shared→Prop} {h:Heap} {g:Array GenState} {d:Drawn} {t:Nat} {os:OsState} {K:Frag} {C a:Addr} {o:Obj}
structure ExK (K:Frag) (C:Addr):Prop where
 ga:findIn K (.ref C) "__getattribute__"=some (some (.builtin "BaseException.__getattribute__"))
 gt:findIn K (.ref C) "__getattr__"=some none
 cl:findIn K (.ref C) "__class__"=some (some (.builtin "object.__class__"))
 be:mroIn K C (.type "BaseException")=some true
 ob:mroIn K C (.type "object")=some true
 ha:hasDictIn K C=true
 ve:mroIn K C (.type "ValueError")=some true
 sf:mroIn K C (.ref C)=some true
 ty:typeIn K (.ref C)=some (.type "type")
theorem ExK.kit {D:Addr} {b:Bool} (k:ExK K C) (kD:ExK K D) (m:mroIn K C (.ref D)=some b):kitOne K (.ref C) (.ref D)=some b:=by
 unfold kitOne
 by_cases e:C=D
 ·subst e;rw [if_pos (beq_self_eq_true _)];exact k.sf.symm.trans m
 ·rw [if_neg (fun z=>e (Value.ref.inj (beq_iff_eq.mp z)))];show (if ((clsIn K D).isSome && typeIn K (.ref D) == some (.type "type"))=true then subIn K (.ref C) (.ref D) else none)=some b;obtain ⟨cd,hc,_⟩:=any_some kD.ha;rw [hc,kD.ty,if_pos (by rw [Bool.and_eq_true];exact ⟨rfl,beq_self_eq_true _⟩)];exact m
theorem meta_ve:kitMeta "ValueError"=true:=by decide +kernel
theorem ExK.kitV (k:ExK K C):kitOne K (.ref C) (.type "ValueError")=some true:=by
 unfold kitOne;rw [if_neg (fun z=>by cases beq_iff_eq.mp z)];show (if kitMeta "ValueError"=true then subIn K (.ref C) (.type "ValueError") else none)=some true;rw [if_pos meta_ve];exact k.ve
theorem zi1 {R:Result→Shared→Prop} {tp:Value} (k:ExK K C) (X:K.In h) (hx:h.get? a=some o) (hc:o.cls=.ref C) (hq:R (.ok (.ret (.ref C))) ⟨h,g,d,t,os⟩) :
  codeAny (model prog w) A (.call (.builtin "getset_descriptor.__get__") ⟨[.builtin "object.__class__",.ref a,tp],[]⟩) R ⟨h,g,d,t,os⟩:=by
 have L0:Looks (model prog w) h (typeOf (.ref a)) (.ref C):=hc▸(Looks.ld hx).andThen .now;have L1:=looks_mroIn (M:=model prog w) X k.ob;refine codeAny_call_builtin KF.slot_gs.plain KF.entry_gs (KF.slot_gs.check _ _ _ _ _ _ _ _ KF.type_class (KF.args_gs _ _ _) ?_);unfold Builtin.«getset_descriptor.__get__» descrGet;rw [dga_obj];refine wpAny_bind (wpAny_pure ?_);unfold descrGetter descrCheckInstance descrNameAndClass isInstance;simp only [KF.owner_class]
 repeat lk
 refine ⟨Code.quiet_builtin _ (by decide +kernel),codeAny_builtin KF.entry_class ?_⟩;unfold Builtin.«object.__class__» shownTypeOf
 repeat lk
 exact hq
theorem zgM {tk:Tok} {Q:PySem.Fin→Shared→Prop} (k:ExK K C) (X:K.In h) (hx:h.get? a=some o) (hc:o.cls=.ref C) (hq:Q (.done (.ret (.ref C))) ⟨h,g,d,t,os⟩) :
  wpAny (model prog w) A (Builtin.«object.__getattribute__» ⟨[.ref a,.str "__class__" tk],[]⟩) Q E ⟨h,g,d,t,os⟩:=by
 have hT5:(⟨h,g,d,t,os⟩:Shared).TypeIs (.builtin "object.__class__") "getset_descriptor":=F.typeOf_object_class;have f5:=F.typeOf_object_class;have f6:=F.slot_gs_get.lookup;have f7:=F.slot_gs_set.lookup;have L2:=looks_findIn (M:=model prog w) X k.cl
 repeat (any_goals (first | assumption | (with_reducible refine wpAny_loadPart_at hx ?_;rw [hc]) | with_reducible refine L2.at ?_ | wp_step))
 refine zi1 k X hx hc ?_
 repeat (any_goals (first | assumption | wp_step))
theorem zgN {M:Model} {nameV:Value} {Q:Unit→Shared→Prop} (k:ExK K C) (X:K.In h) (hx:h.get? a=some o) (hc:o.cls=.ref C) (hq:Q () ⟨h,g,d,t,os⟩):wpAny M A (checkBuiltinCall "BaseException.__getattribute__" ⟨[.ref a,nameV],[]⟩) Q E ⟨h,g,d,t,os⟩:=by
 have hk:builtinKind "BaseException.__getattribute__"=some .slot:=by decide +kernel
 have hsplit:splitId "BaseException.__getattribute__"=some ("BaseException","__getattribute__"):=by decide +kernel
 have L1:=looks_mroIn (M:=M) X k.be;have ha:=F.args_bexc_ga (.ref a) nameV;simp only [checkBuiltinCall,hk,hsplit];refine wpAny_bind ?_
 ·unfold isInstance
  repeat (first | (with_reducible refine wpAny_loadPart_at hx ?_;rw [hc]) | with_reducible refine L1.at ?_ | wp_step)
  exact hq
theorem zh5 {tk:Tok} {R:Result→Shared→Prop} (k:ExK K C) (X:K.In h) (hx:h.get? a=some o) (hc:o.cls=.ref C) (hq:R (.ok (.ret (.ref C))) ⟨h,g,d,t,os⟩) :
  codeAny (model prog w) A (.call (.builtin "BaseException.__getattribute__") ⟨[.ref a,.str "__class__" tk],[]⟩) R ⟨h,g,d,t,os⟩ :=
 codeAny_call_builtin (by first | exact F.excAttr_ValueError.ga.plain | decide +kernel) F.entry_bexc_ga (zgN k X hx hc (zgM k X hx hc hq))
theorem zj8 {tk:Tok} {Q:Value→Shared→Prop} (k:ExK K C) (X:K.In h) (hx:h.get? a=some o) (hc:o.cls=.ref C) (hq:Q (.ref C) ⟨h,g,d,t,os⟩) :
  wpAny (model prog w) A (getAttrBy (.ref a) (.str "__class__" tk) false) Q E ⟨h,g,d,t,os⟩:=by
 have f3:=F.attr_ValueError.ga.bind (.ref a);have L1:=looks_findIn (M:=model prog w) X k.ga;have L2:=looks_findIn (M:=model prog w) X k.gt;have hx2:(Value.builtin "BaseException.__getattribute__" == Value.builtin "object.__getattribute__")=false:=by decide +kernel
 have hx1:(onTheHeap (Value.ref C) && Value.builtin "BaseException.__getattribute__" == Value.builtin "object.__getattribute__")=false:=by rw [hx2];rfl
 repeat (any_goals (first | assumption | (with_reducible refine wpAny_loadPart_at hx ?_;rw [hc]) | with_reducible refine L1.at ?_ | with_reducible refine L2.at ?_ | wp_step))
 refine zh5 k X hx hc ?_
 repeat (any_goals (first | assumption | wp_step))
theorem zh6 {Q:Option Value→Shared→Prop} (k:ExK K C) (X:K.In h) (hx:h.get? a=some o) (hc:o.cls=.ref C) (hq:Q (some (.ref C)) ⟨h,g,d,t+1,os⟩) :
  wpAny (model prog w) A (getAttr? (.ref a) "__class__") Q E ⟨h,g,d,t,os⟩:=by
 unfold getAttr? getAttrBy?
 repeat (any_goals (first | assumption | with_reducible apply zj8 k X hx hc | wp_step))
def XAt (a C:Addr) (h:Heap):Prop:=∃ o,h.get? a=some o∧o.cls=.ref C
theorem zgk (k:ExK K C):KitX K (.ref a) (.ref C) (XAt a C) where
 ty:=fun _ _ _ ⟨_,hx,hc⟩=>hc▸(Looks.ld hx).andThen .now
 it:=fun _ _ X _=>by
  obtain ⟨cdD,hcD,_⟩:=any_some k.ha;unfold clsIn at hcD;split at hcD
  ·rename_i c' d' cd' sl' ho
   intro A' Q' E' s' k q;unfold isType loadHead;exact wpAny_bind (wpAny_loadPart (k _ _ (X _ _ ho)) (wpAny_pure q))
  ·cases hcD
 ne:=fun h tp dd its n sl X htp=>by
  obtain ⟨cdD,hcD,_⟩:=any_some k.ha;refine Bool.eq_false_iff.mpr fun q=>?_;have e:C=tp:=Value.ref.inj (beq_iff_eq.mp q);subst e;unfold clsIn at hcD;split at hcD
  ·rename_i c' d' cd' sl' ho
   have z:=(X _ _ ho).symm.trans htp
   cases z
  ·cases hcD
 ca:=fun X ⟨_,hx,hc⟩ q=>zh6 k X hx hc q
end
open PySem PySem.Spec PyProof.Rows
def excO (a C:Addr):HO:=.ext (XAt a C)
theorem zj9 {P:Program} {w:World} {H:Hp} {h:Heap} {a C:Addr} (x:XAt a C h):zbn P w H h a (excO a C) :=
 ⟨x,x.imp fun _ z=>z.1,fun _ _ ⟨o,e,c⟩ st=>⟨o,st o e,c⟩⟩
section
variable {X:Cx} {pins:List (Addr×Obj)} {σ:St} {H:Hp} {s:Shared} {K:PySem.W.Frag}
def zka (K:PySem.W.Frag):List V→Hp→VK→Prop:=fun xs H Q=>∃ a C c c' b,xs=[.ref a,c]∧H a=some (excO a C)∧ExK K C∧(c=.ty c'∧PySem.W.kitOne K (.ref C) (.type c')=some b∨∃ D,c=.ref D∧PySem.W.kitOne K (.ref C) (.ref D)=some b)∧Q (.bl b) H
theorem zbI (h:X.K=K):zel X (.builtin "isinstance") (zka K):=by
 subst h;intro pins s σ H xs us Q I r h;obtain ⟨a,C,c,c',b,rfl,ea,k,hc,q⟩:=h;obtain ⟨u,v,rfl,r1,r2⟩:=Vals.two r;obtain rfl:u=Value.ref a:=r1;obtain ⟨xa,_⟩:=(show zbn X.prog X.w H s.heap a (excO a C) from I.hok a _ ea)
 rcases hc with ⟨rfl,e⟩ | ⟨D,rfl,e⟩
 ·obtain rfl:v=Value.type c':=r2;exact kia_one (zgk k) I.kIn xa e (fun z=>nomatch z) fun tk=>⟨.bl b,H,I.tok _,rfl,q⟩
 ·obtain rfl:v=Value.ref D:=r2;exact kia_one (zgk k) I.kIn xa e (fun z=>nomatch z) fun tk=>⟨.bl b,H,I.tok _,rfl,q⟩
theorem ze7 {H:Hp} {Q:VK} {a C D:Addr} {b:Bool} (ea:H a=some (excO a C)) (k:ExK K C) (kD:ExK K D) (m:PySem.W.mroIn K C (.ref D)=some b) (q:Q (.bl b) H):zka K [.ref a,.ref D] H Q :=
 ⟨a,C,_,"",b,rfl,ea,k,.inr ⟨D,rfl,k.kit kD m⟩,q⟩
theorem zln {H:Hp} {Q:VK} {a C:Addr} (ea:H a=some (excO a C)) (k:ExK K C) (q:Q (.bl true) H):zka K [.ref a,.ty "ValueError"] H Q :=
 ⟨a,C,_,"ValueError",true,rfl,ea,k,.inl ⟨rfl,k.kitV⟩,q⟩
theorem Inv.track {a:Addr} {o:HO} (I:Inv X pins σ H s) (hn:H a=none) (h0:∀ u,X.s₀.heap.get? a=some u→a∈X.ex) (hl:a≠X.env.locals) (hc:∀ x c,X.env.cells.lookup x=some c→c≠a) (hp:∀ p∈X.pn++pins,p.1≠a)
  (new:zbn X.prog X.w (upd H a o) s.heap a o):Inv X pins σ (upd H a o) s:=by
 have ne:∀ {b u},H b=some u→b≠a:=fun e=>zag e hn;refine ⟨I.ok,I.os,I.bare,⟨I.base.keep,I.base.slot,fun b u e n x=>?_,I.base.there,fun b xs e=>?_,fun b u v e=>?_,fun b ps e=>?_⟩,I.loc,I.cell,?_,fun x c e=>?_,fun p hp'=>?_,fun b u e=>?_,I.len⟩
 ·rw [zav fun z=>x (by subst z;exact h0 u e)];exact I.base.free b u e n x
 ·have q:=I.base.tups b xs e;rw [zav (ne q)];exact q
 ·have q:=I.base.frzs b u v e;rw [zav (ne q)];exact q
 ·obtain ⟨m,q⟩:=I.base.tbls b ps e;exact ⟨m,by rw [zav (ne q)];exact q⟩
 ·rw [zav (Ne.symm hl)];exact I.free
 ·rw [zav (hc x c e)];exact I.freeC x c e
 ·obtain ⟨p1,p2,p3⟩:=I.pin p hp';exact ⟨p1,by rw [zav (hp p hp')];exact p2,p3⟩
 ·by_cases hb:b=a
  ·subst hb;rw [zao] at e;cases e;exact new
  ·rw [zav hb] at e;exact (I.hok b u e).stay (fun _ _ _ q=>q) (fun c q=>by rw [zav (ne q)];exact q) fun c xs q=>by rw [zav (ne q)];exact q
theorem HS.track {a C:Addr} (h:HS X pins σ H a (.ref C) s):H a=none∧Inv X pins σ (upd H a (excO a C)) s:=by
 have J:=h.inv;obtain ⟨s0,H0,I,os,bare,B,a0,F,V⟩:=h;obtain ⟨f1,f2,f3,oe,vs,T,oT,ts,he,⟨hc,_⟩,hd,_⟩:=F;have nf:a∉frs X.stack:=fun z=>by
  obtain ⟨_,o,e,d⟩:=f3.mem z;rw [he] at e;cases e
  exact d vs hd
 have n0:∀ u,s0.heap.get? a=some u→False:=fun u e=>by
  have:=V.cov a oe he (.inr ⟨u,e⟩) nf;rw [f2] at this;cases this
 have hn:H a=none:=by
  cases e:H a with
  | none=>rfl
  | some u =>
    have:=V.cov a oe he (.inl (by rw [e];simp)) nf;rw [f2] at this;cases this
 refine ⟨hn,J.track hn (fun u e=>?_) (fun z=>?_) (fun x c e z=>?_) (fun p hp z=>?_) (zj9 ⟨oe,he,hc⟩)⟩
 ·refine Classical.byContradiction fun z=>?_;obtain ⟨o',e'⟩:=I.base.there a u e z;exact n0 _ e'
 ·obtain ⟨m,⟨o,es,ep,ho,hdd,_⟩,_⟩:=J.loc;rw [← z,he] at ho;cases ho
  rw [hd] at hdd;cases hdd
 ·obtain ⟨v,o,ho,hdd⟩:=J.cell x c e;rw [z,he] at ho;cases ho
  rw [hd] at hdd;cases hdd
 ·have:=(I.pin p hp).1;rw [z] at this;exact n0 _ this
theorem zex {M:Model} {A:Around} {E:Value→Shared→Prop} {i:Nat} {x:Str} {pos:Pos} {Q:Unit→Shared→Prop} (I:Inv X pins σ H s) (hN:X.N.Nodup) (hi:X.N[i]? = some x) (hk:X.env.scope.names.lookup x=some .local)
  (h:∀ s',Inv X pins (σ.set i none) H s'→Q () s'):wpAny M A (do bindName X.env x .none;unbindBehindTheSuite X.env x pos) Q E s:=by
 obtain ⟨m,hn,hl⟩:=id I.loc;have hcls:(X.env.scope.kind == .class || (X.env.scope.kind == .module && X.env.locals != X.env.globals))=false:=by rw [I.ok.kind];rfl
 refine wpAny_nameGoes_keeps hk hn hcls fun h' v hn' hs=>h _ ?_;obtain ⟨oL,_,_,hoL,_⟩:=id hn;refine ⟨I.ok,I.os,I.bare,⟨fun b o e n hb hx=>?_,fun b o e n hb hx=>?_,I.base.free,fun b o e hx=>?_,I.base.tups,I.base.frzs,I.base.tbls⟩,⟨_,hn',fun j y v' e1 e2 e3=>?_⟩,fun y c e=>?_,I.free,I.freeC,fun p hp=>?_,fun b ob e=>?_,by simpa using I.len⟩
 ·exact (hs.2 b (Nat.ne_of_lt (Nat.lt_of_lt_of_le (Heap.lt_size e) I.ok.above))).trans (I.base.keep b o e n hb hx)
 ·obtain ⟨sl,e1⟩:=I.base.slot b o e n hb hx;exact ⟨sl,(hs.2 b (Nat.ne_of_lt (Nat.lt_of_lt_of_le (Heap.lt_size e) I.ok.above))).trans e1⟩
 ·obtain ⟨o',e1⟩:=I.base.there b o e hx;exact ⟨o',(hs.2 b (Nat.ne_of_lt (Nat.lt_of_lt_of_le (Heap.lt_size e) I.ok.above))).trans e1⟩
 ·by_cases hj:j=i
  ·subst hj;rw [List.getElem?_set] at e2;simp at e2
  ·rw [List.getElem?_set_ne (Ne.symm hj)] at e2;obtain ⟨u',r',q⟩:=hl j y v' e1 e2 e3;refine ⟨u',r',?_⟩;rcases q with ⟨k,e⟩ | ⟨k,c,e,z⟩
   ·refine .inl ⟨k,?_⟩;have:y≠x:=fun e=>hj (zej hN e1 (e▸hi));simp [this,e]
   ·exact .inr ⟨k,c,e,z.sameBut hs (I.cne y c e)⟩
 ·obtain ⟨w',z⟩:=I.cell y c e;exact ⟨w',z.sameBut hs (I.cne y c e)⟩
 ·obtain ⟨e,n,ne,nf,d⟩:=I.pin p hp;exact ⟨(hs.2 p.1 ne).trans e,n,ne,nf,d⟩
 ·refine (I.hok b ob e).stay (fun c w' hc q=>(hs.2 c ?_).trans q) (fun _ q=>q) fun _ _ q=>q;rintro rfl;rcases hc with z | hc
  ·rw [← z,I.free] at e;cases e
  ·rw [I.free] at hc;cases hc
abbrev zh7 (i:Nat) (D:Ends):Ends:=⟨fun σ H=>D.nx (σ.set i none) H,D.rt,fun σ H=>D.bk (σ.set i none) H,fun σ H=>D.ct (σ.set i none) H⟩
def zlo (K:PySem.W.Frag) (C:Addr) (i:Nat) (ts:TS):Value→TS:=fun cls D σ H=>PySem.W.exmOne K cls (.ref C)=some true∧∃ C',cls=.ref C'∧∀ a,H a=none→ts (zh7 i D) (σ.set i (some (.ref a))) (upd H a (excO a C'))
theorem zlp {C C':Addr} {i:Nat} {ts:TS} {D:Ends} {σ:St} {H:Hp} (e:PySem.W.exmOne K (.ref C') (.ref C)=some true) (h:∀ a,H a=none→ts (zh7 i D) (σ.set i (some (.ref a))) (upd H a (excO a C'))):zlo K C i ts (.ref C') D σ H:=⟨e,C',rfl,h⟩
theorem zl3 {x n:Str} {C:Addr} {i:Nat} {np pos:Pos} {b₀:Stmt} {suite:List Stmt} {ts:TS} (hno:∀ e s,¬X.xe e s) (hg:Gl X x) (hm:X.mg x=some (.ref C)) (hN:X.N.Nodup) (hi:X.N[i]? = some n) (hk:X.env.scope.names.lookup n=some .local)
  (hs:∀ v,PSs (X.held v) (b₀::suite) ts) (hdb:(x == ("__debug__" : Str))=false:=by decide) :
  PH X [.ExceptHandler (some (.Name x np)) (some n) (b₀::suite) pos] (zlo X.K C i ts):=by
 intro pins s σ H D a cls hh hq;obtain ⟨hx,C',rfl,q⟩:=hq;have I:=hh.inv;have LT:PySem.W.Looks (model X.prog X.w) s.heap (typeOf (.ref a)) (.ref C'):=by
  obtain ⟨s0,H0,_,_,_,B,a0,F,_⟩:=hh;obtain ⟨ob,hob,hc⟩:=F.there;exact hc▸(PySem.W.Looks.ld hob).andThen .now
 refine wpAny_handleBy_cons (codeAny_handlers_test (zcH (I.held (some (.ref a))) hg hm ?_ hdb)) (by intro z;cases z);refine (PySem.W.exm_one (K:=X.K) I.kIn LT hx).here ?_;refine codeAny_handlers_suite_as (hh.step fun h' hh'=>?_);obtain ⟨hn,J⟩:=hh'.track;refine zek (X:=X.held (some (.ref a))) (J.held _) hN hi (.inl hk) (v:=.ref a) rfl (fun s' J'=>?_) (.inr hk);refine wpAny_mono (hs _ pins s' _ _ (zh7 i D) J' (q a hn)) (fun f s2 z=>?_) fun e s2 z=>(hno e s2 z).elim;have z:=z.unheld I.ok
 cases f with
 | next=>obtain ⟨σ',H',I',q'⟩:=z;exact zex I' hN hi hk fun s3 I3=>⟨_,H',I3,q'⟩
 | brk=>obtain ⟨σ',H',I',q'⟩:=z;exact zex I' hN hi hk fun s3 I3=>⟨_,H',I3,q'⟩
 | cont=>obtain ⟨σ',H',I',q'⟩:=z;exact zex I' hN hi hk fun s3 I3=>⟨_,H',I3,q'⟩
 | ret u=>obtain ⟨v,σ',H',I',r,q'⟩:=z;exact zex I' hN hi hk fun s3 I3=>⟨v,_,H',I3,r,q'⟩
end
end L2
namespace Prf
open PySem PySem.Spec PyProof.Rows L2
inductive De where
 | paper (h:Int)
 | reader (h l:Int)
 | step (s:Int)
 | deal
 | enter (k r p:Int)
def De.row:De→List Int
 | .paper h=>[0,h]
 | .reader h l=>[1,h,l]
 | .step s=>[2,s]
 | .deal=>[3]
 | .enter k r p=>[4,k,r,p]
def De.why (st:ExS):De→Option Rf
 | .paper h=>whyP st h
 | .reader h l=>whyR st h l
 | .step s=>whyS st s
 | .deal=>whyD st
 | .enter k r p=>whyE st k r p
def rfN:Rf→Nat
 | .time=>0
 | .unknown=>1
 | .notdue=>2
 | .bounds=>3
 | .full=>4
def zcV (f:Rf):List Bool:=[true,decide (rfN f=0),decide (rfN f=1),decide (rfN f=2),decide (rfN f=3),decide (rfN f=4)]
theorem zh8 {f:Rf} {k:Int} (h:(rfN f:Int)=k):(true::(List.range 5).map fun i:Nat=>decide (k=(i:Int)))=zcV f:=by
 subst h
 cases f <;> decide
theorem zi2 (f:Rf):eqVs ((zcV f).map V.bl) ((zcV f).map V.bl)=true:=by cases f <;> decide +kernel
theorem zef (f:Rf):((zcV f).map V.bl).all flatV=true:=by cases f <;> decide +kernel
theorem ze8 {K:PySem.W.Frag} {H:Hp} {Q:VK} {a b:Addr} (f:Rf) (h1:H a=some (.lst ((zcV f).map V.bl))) (h2:H b=some (.lst ((zcV f).map V.bl))) (q:Q (.bl true) H):rEq2 K (.ref a) (.ref b) H Q :=
 .inl (.inr ⟨a,b,_,_,rfl,rfl,SqL.of h1,SqL.of h2,zef f,zef f,by rw [zi2];exact q⟩)
theorem zlq (rows:LI) (x:Int):cntB rows x≤rows.length:=length_filter_le _ _
theorem zi3 {n:Nat} {x:Int} (h1:x≠1) (h2:x≠2):cntB (List.replicate n [1,2]) x=0:=by
 unfold cntB;rw [List.filter_eq_nil_iff.mpr]
 ·rfl
 ·intro r hr;rw [List.eq_of_mem_replicate hr];simp [h1,h2]
theorem zey {n i:Nat} {r:List Int} (h:i < n):(List.replicate n r).getD i []=r:=by
 rw [getD_eq_getElem?_getD,List.getElem?_replicate,if_pos h];rfl
structure Two0 (hs:List Int) (rs:LI):Prop where
 inb:InB hs rs
 l2:2≤rs.length
 a:rs.getD 0 []=[0,10]
 b:rs.getD 1 []=[0,10]
theorem twos_right {hs:List Int} {rs:LI} (h:Two0 hs rs):zaR hs rs (List.replicate hs.length [1,2])=true:=by
 have l2:=h.l2;refine za3.mpr ⟨by rw [length_replicate],fun k hk=>?_,fun k hk=>?_⟩
 ·rw [zey hk,zbB];have:=h.inb.hh k hk;refine ⟨rfl,by decide,by decide,by show (2:Int)≤_;omega,?_,?_⟩
  ·show (rs.getD 0 []).getD 0 0≠_;rw [h.a];show (0:Int)≠_;omega
  ·show (rs.getD 1 []).getD 0 0≠_;rw [h.b];show (0:Int)≠_;omega
 ·have hl:=h.inb.lp;have hc:=zlq (List.replicate hs.length [1,2]) ((k:Int)+1);rw [length_replicate] at hc;have h0:=(h.inb.rl k hk).1
  match k,hk with
  | 0,_=>rw [h.a];show _≤(10:Int);omega
  | 1,_=>rw [h.b];show _≤(10:Int);omega
  | k+2,_=>rw [zi3 (by omega) (by omega)];exact h0
theorem twos_only:∀ (n:Nat) (tt:LI),tt.length=n→(∀ k,k < n→(tt.getD k []).length=2∧1≤(tt.getD k []).getD 0 0∧(tt.getD k []).getD 0 0 < (tt.getD k []).getD 1 0)→nbB tt (List.replicate n [1,2])=true→tt=List.replicate n [1,2]
 | 0,[],_,_,_=>rfl
 | n+1,t::ts,hl,hp,hn=>by
   obtain ⟨h1,h2,h3⟩:t.length=2∧1≤t.getD 0 0∧t.getD 0 0 < t.getD 1 0:=hp 0 (by omega);have hn:(if t.getD 0 0=1 then (if t.getD 1 0=2 then nbB ts (List.replicate n [1,2]) else decide (t.getD 1 0 < 2)) else decide (t.getD 0 0 < 1))=true:=hn
   by_cases e0:t.getD 0 0=1
   ·rw [if_pos e0] at hn
    by_cases e1:t.getD 1 0=2
    ·rw [if_pos e1] at hn;have:=twos_only n ts (by simpa using hl) (fun k hk=>hp (k+1) (by omega)) hn;rw [List.replicate_succ,this]
     congr 1
     match t,h1 with
     | [x,y],_ =>
       have e0:x=1:=e0;have e1:y=2:=e1;rw [e0,e1]
    ·rw [if_neg e1] at hn;exact absurd (of_decide_eq_true hn) (by omega)
   ·rw [if_neg e0] at hn;exact absurd (of_decide_eq_true hn) (by omega)
theorem twos_first {hs:List Int} {rs tt:LI} (h:Two0 hs rs) (F:za2 hs rs (some tt)):tt=List.replicate hs.length [1,2]:=by
 obtain ⟨hr,hm⟩:zaR hs rs tt=true∧∀ rows,zaR hs rs rows=true→nbB tt rows=true:=F;have RP:=zdF.mp hr;exact twos_only _ _ RP.len (fun k hk=>⟨RP.two k hk,RP.lo k hk,RP.lt k hk⟩) (hm _ (twos_right h))
abbrev dlt (hs:List Int) (rs:LI):ExS:=⟨hs,rs,100,some (List.replicate hs.length [1,2],[[1,1,60]])⟩
theorem ent_in:za7 [[1,1,60]] 0 1=some 60:=by decide +kernel
theorem zkb {k:Nat} {r:Int} (h:¬(k=0∧r=1)):za7 [[1,1,60]] k r=none:=by
 have:=zcw [] [1,1,60] k r;rw [List.nil_append] at this;rw [this,if_neg,zhT];rintro ⟨z1,z2⟩;have z1:(1:Int)=(k:Int)+1:=z1;have z2:(1:Int)=r:=z2;exact h ⟨by omega,z2.symm⟩
theorem zlr (hs:List Int) (rs:LI):(dlt hs rs).nm=List.replicate hs.length [1,2]:=rfl
theorem zjn (hs:List Int) (rs:LI):(dlt hs rs).en=[[1,1,60]]:=rfl
theorem zkc {hs:List Int} {rs:LI}:(1:Int)∉zbC (dlt hs rs).nm (dlt hs rs).en 0:=by
 intro z;have:=(mem_filter.mp z).2;rw [zjn,ent_in] at this
 cases this
theorem zh9 {hs:List Int} {rs:LI} {k:Nat} (h:k < hs.length):(2:Int)∈zbC (dlt hs rs).nm (dlt hs rs).en k:=by
 refine mem_filter.mpr ⟨?_,?_⟩
 ·rw [zlr,zey h];decide
 ·show (za7 (dlt hs rs).en k 2).isNone=true;rw [zjn,zkb (by omega)];rfl
theorem zi4 {hs:List Int} {rs:LI} (h:1≤hs.length):zcU (dlt hs rs) 0=false:=by
 unfold zcU;have:zbC (dlt hs rs).nm (dlt hs rs).en 0≠[]:=fun z=>by
  have:=zh9 (rs:=rs) (k:=0) (hs:=hs) (by omega);rw [z] at this
  cases this
 rw [decide_eq_false this,Bool.and_false,Bool.false_and]
theorem ze9 {hs:List Int} {rs:LI} (h:1≤hs.length):zbG (dlt hs rs) 0=0:=by
 unfold zbG;rw [zi4 h,if_neg (by decide)]
theorem zia {hs:List Int} {rs:LI} (h:1≤hs.length):zbU (dlt hs rs) 0=dlt hs rs:=by
 unfold zbU;rw [ze9 h,if_neg (by decide)]
structure Sit (st:ExS) (dealt:Bool):Prop where
 dl:st.dl.isSome=dealt
 n1:1≤st.hs.length
 r2:2≤st.rs.length
 w:dealt=true→(2:Int)∈zbC st.nm st.en (((st.hs.length:Int)-1).toNat)
 nd:dealt=true→(1:Int)∉zbC st.nm st.en 0
theorem Sit.open_ {hs:List Int} {rs:LI} {s:Int} (h:1≤hs.length) (h2:2≤rs.length):Sit ⟨hs,rs,s,none⟩ false:=⟨rfl,h,h2,fun z=>(by cases z),fun z=>(by cases z)⟩
theorem Sit.dealt {hs:List Int} {rs:LI} (h:1≤hs.length) (h2:2≤rs.length):Sit (dlt hs rs) true:=⟨rfl,h,h2,fun _=>zh9 (k:=((hs.length:Int)-1).toNat) (by omega),fun _=>zkc⟩
section
variable {st:ExS} {b:Bool} {k r p h l s:Int}
theorem Sit.no (S:Sit st false):¬st.dl.isSome=true:=by rw [S.dl];decide
theorem Sit.early (S:Sit st false):(De.enter k r p).why st=some .time:=by show whyE st k r p=_;unfold whyE;rw [if_neg S.no]
theorem Sit.late (S:Sit st true) (d:De) (hd:∀ k r p,d≠.enter k r p):d.why st=some .time:=by
 cases d with
 | paper h=>show whyP st h=_;unfold whyP;rw [if_pos S.dl]
 | reader h l=>show whyR st h l=_;unfold whyR;rw [if_pos S.dl]
 | step s=>show whyS st s=_;unfold whyS;rw [if_pos S.dl]
 | deal=>show whyD st=_;unfold whyD;rw [if_pos S.dl]
 | enter k r p=>exact absurd rfl (hd k r p)
theorem Sit.unkE (S:Sit st true) (h:(st.hs.length:Int) < k∨r < 1):(De.enter k r p).why st=some .unknown:=by
 show whyE st k r p=_;unfold whyE;rw [if_pos S.dl,if_neg (by omega)]
theorem Sit.unkP (S:Sit st false) (g:h < 1∨6 < h):(De.paper h).why st=some .unknown:=by
 show whyP st h=_;unfold whyP;rw [if_neg S.no,if_neg (by omega)]
theorem Sit.unkR (S:Sit st false) (g:h < 0∨6 < h):(De.reader h l).why st=some .unknown:=by
 show whyR st h l=_;unfold whyR;rw [if_neg S.no,if_neg (by omega)]
theorem Sit.bndE (S:Sit st true) (g:p < 0∨100 < p):(De.enter st.hs.length 2 p).why st=some .bounds:=by
 have:=S.n1;have:=S.r2;show whyE st _ 2 p=_;unfold whyE;rw [if_pos S.dl,if_pos ⟨⟨by omega,by omega⟩,by omega,by omega⟩,if_pos (S.w rfl),if_neg (by omega)]
theorem Sit.bndR (S:Sit st false) (g:l < 0∨30 < l):(De.reader 3 l).why st=some .bounds:=by
 show whyR st 3 l=_;unfold whyR;rw [if_neg S.no,if_pos (by decide),if_neg (by omega)]
theorem Sit.bndS (S:Sit st false) (g:s < 0∨100 < s):(De.step s).why st=some .bounds:=by
 show whyS st s=_;unfold whyS;rw [if_neg S.no,if_neg (by omega)]
theorem Sit.nodue (S:Sit st true):(De.enter 1 1 p).why st=some .notdue:=by
 have:=S.n1;have:=S.r2;show whyE st 1 1 p=_;unfold whyE;rw [if_pos S.dl,if_pos ⟨⟨by omega,by omega⟩,by omega,by omega⟩,if_neg (show ¬(1:Int)∈zbC st.nm st.en ((1:Int)-1).toNat from S.nd rfl)]
theorem Sit.fullP (S:Sit st false) (g:1≤h∧h≤6) (f:10≤st.hs.length):(De.paper h).why st=some .full:=by
 show whyP st h=_;unfold whyP;rw [if_neg S.no,if_pos g,if_neg (by omega)]
theorem Sit.fullR (S:Sit st false) (g:0≤h∧h≤6) (g2:0≤l∧l≤30) (f:8≤st.rs.length):(De.reader h l).why st=some .full:=by
 show whyR st h l=_;unfold whyR;rw [if_neg S.no,if_pos g,if_pos g2,if_neg (by omega)]
end
end Prf
open PySem PySem.Spec PyProof.Rows L2
local macro_rules | `(tactic| walk_at "ne")=>`(tactic| first | assumption | (exact Ne.symm (by assumption)) | (exact zag (by assumption) (by assumption)) | (exact Ne.symm (zag (by assumption) (by assumption))))
local macro_rules | `(tactic| walk_at "hp")=>`(tactic| first | assumption | (exact zao) | (exact SqL.of zao) | (exact SqL.of (by assumption)) | (exact Eq.trans (zav (by walk_at "ne")) (by walk_at "hp")) | (exact SqL.of (Eq.trans (zav (by walk_at "ne")) (by walk_at "hp"))))
local macro_rules | `(tactic| walk_at "ty")=>`(tactic| first | (exact TyOf.int _) | (exact TyOf.bl _) | (exact TyOf.non) | (exact TyOf.str _) | (exact TyOf.lst (by walk_at "hp")))
local macro_rules | `(tactic| walk_at "ix")=>`(tactic| first | (exact zf5 (by omega) (by omega)) | (exact ziA (by omega) (by omega)) | (exact rfl))
local macro_rules | `(tactic| walk_at "rd1")=>`(tactic| first
 | (with_reducible first | refine zfw ?_ | refine zlP ?_ | refine zlQ ?_ | refine zlO ?_ | refine zkL ?_ | refine zkM ?_ | refine r_break ?_ | refine r_intI ?_ | refine r_intB ?_ | refine zjL ?_ | refine r_op ?_) | ((with_reducible refine' zeM ?rv ?_);(case rv=>exact rfl))
 | (with_reducible first | refine r_c ?_ | refine r_I0 ?_ | refine zkR ?_ | refine zlf ?_ | refine zlg ?_ | refine zlh ?_ | refine r_ne2B ?_ | refine r_eqGI ?_ | refine zjh ?_ | refine r_eqGB ?_ | refine r_neGB ?_ | refine r_cb ?_ | refine zeO ?_ | refine zeN ?_ | refine zjg ?_ | refine zlK ?_ | refine r_bm ?_ | refine zkH ?_ | refine zlL ?_ | refine zkI ?_ | refine zkJ ?_ | refine zkK ?_ | refine r_tB ?_ | refine zlM ?_ | refine r_or ?_ | refine zlN ?_ | refine r_if ?_ | refine r_tt ?_ | refine zjM ?_ | refine zjN ?_)
 | ((with_reducible refine' zlk ?h1 ?_);(case h1=>walk_at "hp")) | ((with_reducible refine' zh1 ?h1 ?_);(case h1=>walk_at "hp"))
 | (with_reducible first | refine r_forZ ?_ | refine zlX ?_ | refine r_notN ?_ | refine r_min2 ?_ | refine r_max2 ?_) | ((with_reducible refine' zkU ?h1 ?h2 ?_);(case h1=>omega);(case h2=>omega)) | ((with_reducible refine' r_pow ?h1 ?_);(case h1=>exact ⟨by decide,by decide,by decide⟩))
 | ((with_reducible refine' r_mulB ?h1 ?_);(case h1=>first | (exact .inl (.inr ⟨by decide,by decide⟩)) | (exact .inl (.inl ⟨by omega,by omega⟩)) | (exact .inl (.inr ⟨by omega,by omega⟩)) | (exact .inr ⟨⟨by omega,by omega⟩,by omega,by omega⟩)))
 | (with_reducible first | refine r_lr ?_ | refine r_sl ?_ | refine zjW ?_ | refine zkV ?_ | refine zjX ?_ | refine r_setSub ?_ | refine r_gsub ?_ | refine r_maxD ?_) | ((with_reducible refine' leaf_max ?h1 ?_);(case h1=>walk_at "hp"))
 | (with_reducible first | refine r_for3 ?_ | refine zlV ?_ | refine r_un ?_ | refine zkN ?_ | refine zkO ?_ | refine zkS ?_ | refine zjO ?_ | refine zjP ?_ | refine zjQ ?_ | refine zkZ ?_ | refine zj1 ?_ | refine zj2 ?_ | refine zlY ?_ | refine zk2 ?_ | refine zk3 ?_ | refine zk4 ?_ | refine zk5 ?_ | refine zlZ ?_ | refine zl0 ?_ | refine zlb ?_ | refine zlc ?_ | refine zk7 ?_)
 | ((with_reducible refine' ziQ ?h1 ?h2 ?h3 ?h4 ?_);(case h1=>assumption);(case h2=>assumption);(case h3=>assumption);(case h4=>assumption))
 | ((with_reducible refine' zlT ?h1 ?_);(case h1=>omega)) | ((with_reducible refine' r_div ?h1 ?h2 ?_);(case h1=>omega);(case h2=>omega)) | ((with_reducible refine' r_mul ?h1 ?_);(case h1=>first | (exact .inr ⟨by decide,by decide⟩) | (exact .inl ⟨by omega,by omega⟩) | (exact .inr ⟨by omega,by omega⟩))) | ((with_reducible refine' zlU ?h1 ?_);(case h1=>walk_at "hp"))
 | ((with_reducible refine' zcy ?h1 ?h2 ?_);(case h1=>walk_at "hp");(case h2=>walk_at "ix"))
 | ((with_reducible refine' zkP ?h1 ?_);(case h1=>walk_at "hp")) | ((with_reducible refine' zkQ ?h1 ?_);(case h1=>walk_at "hp")) | ((with_reducible refine' zlR ?h1 ?_);(case h1=>walk_at "hp"))
 | ((with_reducible refine' zlS ?h1 ?h2 ?_);(case h1=>walk_at "ty");(case h2=>rfl)))
local macro_rules | `(tactic| walk_at "rd")=>`(tactic| repeat (walk_at "rd1"))
local macro_rules | `(tactic| walk_at "st")=>`(tactic| repeat ((fail_if_success (with_reducible refine zfw ?_));walk_at "rd1"))
local macro_rules | `(tactic| walk_at "rdk")=>`(tactic| repeat (first | walk_at "rd1" | (with_reducible refine iteF ?_) | (with_reducible refine iteT ?_) | (refine zb1 (fun h=>absurd h (by omega)) (fun _=>?_)) | (refine zb1 (fun _=>?_) (fun h=>absurd (by omega) h))))
local macro_rules | `(tactic| symm)=>`(tactic| walk_at "rd")
set_option hygiene false
local macro_rules | `(tactic| walk_at "hd")=>`(tactic| (obtain ⟨e,kvs,rfl,hF,I⟩:=E0;have hcl:=T.cl_Exam;have nA:=T.n_Exam_paper_houses;have nB:=T.n_Exam_reader_rows;have nS:=T.n_Exam_widest_step;have nD:=T.n_Exam_is_dealt;have nC:=T.n_Exam_named_readers;have nE:=T.n_Exam_entered_points;have hob:=I.ob;have fA:=@exFs_a (.ref e.a) (.ref e.b) (.int st.step) (.bl st.dl.isSome) (.ref e.c) (.ref e.d);have fB:=@exFs_b (.ref e.a) (.ref e.b) (.int st.step) (.bl st.dl.isSome) (.ref e.c) (.ref e.d);have fS:=@exFs_s (.ref e.a) (.ref e.b) (.int st.step) (.bl st.dl.isSome) (.ref e.c) (.ref e.d);have fD:=@exFs_d (.ref e.a) (.ref e.b) (.int st.step) (.bl st.dl.isSome) (.ref e.c) (.ref e.d);have fC:=@exFs_c (.ref e.a) (.ref e.b) (.int st.step) (.bl st.dl.isSome) (.ref e.c) (.ref e.d);have fE:=@exFs_e (.ref e.a) (.ref e.b) (.int st.step) (.bl st.dl.isSome) (.ref e.c) (.ref e.d);have hha:=I.ha;have hhb:=I.hb;have hhc:=I.hc;have hhd:=I.hd))
set_option hygiene true
namespace Prf
open PySem PySem.Spec PyProof.Rows L2
def top (i:Nat):Stmt:=PySem.Challenge.pw_secondread_k29_classes.main.body.getD i (.Pass ⟨0,0,0,0⟩)
abbrev s_43:Stmt:=top 41
theorem sc_43:zal ["_law_script","_law_k"] ["_law_script","_law_k"] (zac s_43):=by trivial
abbrev s_20:Stmt:=za1 (top 39) 0
theorem sc_20:zal ["self"] ["self"] (zac s_20):=by trivial
abbrev s_35:Stmt:=za1 (top 39) 15
theorem sc_35:zal ["self"] ["self"] (zac s_35):=by trivial
abbrev s_17:Stmt:=top 34
theorem sc_17:zal ["number","most"] ["number","most"] (zac s_17):=by trivial
abbrev s_23:Stmt:=za1 (top 39) 3
theorem sc_23:zal ["self","step"] ["self","step"] (zac s_23):=by trivial
abbrev s_16:Stmt:=top 33
theorem sc_16:zal ["number","least","most"] ["number","least","most"] (zac s_16):=by trivial
abbrev s_18:Stmt:=top 35
theorem sc_18:zal ["many","most"] ["many","most"] (zac s_18):=by trivial
abbrev s_21:Stmt:=za1 (top 39) 1
theorem sc_21:zal ["self","house"] ["self","house"] (zac s_21):=by trivial
abbrev s_22:Stmt:=za1 (top 39) 2
theorem sc_22:zal ["self","house","limit"] ["self","house","limit"] (zac s_22):=by trivial
abbrev s_47:Stmt:=top 45
theorem sc_47:zal ["_law_homes","_law_staff","_law_step","_law_turn","_law_exam_here","_law_house","_law_one"] ["_law_homes","_law_staff","_law_step","_law_turn"] (zac s_47):=by trivial
abbrev s_44:Stmt:=top 42
theorem sc_44:zal ["_law_found"] ["_law_found"] (zac s_44):=by trivial
abbrev s_46:Stmt:=top 44
theorem sc_46:zal ["_law_found","_law_due","_law_k"] ["_law_found","_law_due"] (zac s_46):=by trivial
abbrev s_36:Stmt:=za1 (top 39) 16
theorem sc_36:zal ["self"] ["self"] (zac s_36):=by trivial
abbrev s_38:Stmt:=za1 (top 39) 18
theorem sc_38:zal ["self","paper","entered"] ["self","paper"] (zac s_38):=by trivial
abbrev s_37:Stmt:=za1 (top 39) 17
theorem sc_37:zal ["self","paper","reader"] ["self","paper","reader"] (zac s_37):=by trivial
abbrev s_39:Stmt:=za1 (top 39) 19
theorem sc_39:zal ["self","paper","entered"] ["self","paper"] (zac s_39):=by trivial
abbrev s_15:Stmt:=top 31
theorem sc_15:zal ["one","other","step"] ["one","other","step"] (zac s_15):=by trivial
abbrev s_42:Stmt:=za1 (top 39) 22
theorem sc_42:zal ["self","paper","points"] ["self","paper"] (zac s_42):=by trivial
abbrev s_1:Stmt:=top 2
theorem sc_1:zal ["papers","readers","paper","reader","reader_house"] ["papers","readers","paper","reader"] (zac s_1):=by trivial
abbrev s_2:Stmt:=top 3
theorem sc_2:zal ["papers","readers","paper"] ["papers","readers","paper"] (zac s_2):=by trivial
abbrev s_19:Stmt:=top 37
theorem sc_19:zal ["papers","readers","left","paper","row","reader"] ["papers","readers","left","paper","row"] (zac s_19):=by trivial
abbrev s_9:Stmt:=top 17
theorem sc_9:zal ["rows","reader"] ["rows","reader"] (zac s_9):=by trivial
abbrev s_8:Stmt:=top 16
theorem sc_8:zal ["readers","rows"] ["readers","rows"] (zac s_8):=by trivial
abbrev s_34:Stmt:=za1 (top 39) 14
theorem sc_34:zal ["self"] ["self"] (zac s_34):=by trivial
abbrev s_41:Stmt:=za1 (top 39) 21
theorem sc_41:zal ["self","paper","named","third"] ["self","paper"] (zac s_41):=by trivial
abbrev s_25:Stmt:=za1 (top 39) 5
theorem sc_25:zal ["self","paper","reader","points"] ["self","paper","reader","points"] (zac s_25):=by trivial
abbrev s_45:Stmt:=top 43
theorem sc_45:zal ["_law_found","_law_due"] ["_law_found","_law_due"] (zac s_45):=by trivial
abbrev s_12:Stmt:=top 20
theorem sc_12:zal ["numbers","pairs","place","first","second"] ["numbers"] (zac s_12):=by trivial
abbrev s_7:Stmt:=top 15
theorem sc_7:zal ["readers","rows"] ["readers","rows"] (zac s_7):=by trivial
abbrev s_Attempt___init__:Stmt:=za1 (top 13) 0
theorem sc_Attempt___init__:zal ["self","papers","readers"] ["self","papers","readers"] (zac s_Attempt___init__):=by trivial
abbrev s_Attempt_free_reading:Stmt:=za1 (top 13) 2
theorem sc_Attempt_free_reading:zal ["self","reader","asked","paper"] ["self","reader","asked"] (zac s_Attempt_free_reading):=by trivial
abbrev s_Attempt_find_reader:Stmt:=za1 (top 13) 1
theorem sc_Attempt_find_reader:zal ["self","paper","asked","reader"] ["self","paper","asked"] (zac s_Attempt_find_reader):=by trivial
abbrev s_3:Stmt:=top 12
theorem sc_3:zal ["papers","readers","attempt","paper","turn"] ["papers","readers"] (zac s_3):=by trivial
abbrev s_14:Stmt:=top 22
theorem sc_14:zal ["readers","limits"] ["readers","limits"] (zac s_14):=by trivial
abbrev s_13:Stmt:=top 21
theorem sc_13:zal ["papers","readers","rows"] ["papers","readers","rows"] (zac s_13):=by trivial
abbrev s_11:Stmt:=top 19
theorem sc_11:zal ["papers","readers","rows","paper","row"] ["papers","readers","rows"] (zac s_11):=by trivial
abbrev s_10:Stmt:=top 18
theorem sc_10:zal ["papers","readers","rows","row"] ["papers","readers"] (zac s_10):=by trivial
abbrev s_24:Stmt:=za1 (top 39) 4
theorem sc_24:zal ["self","rows"] ["self"] (zac s_24):=by trivial
abbrev s_50:Stmt:=top 48
theorem sc_50:zal ["_law_kind","_law_dealt","_law_cell","_law_homes","_law_count"] ["_law_kind","_law_dealt","_law_cell","_law_homes","_law_count"] (zac s_50):=by trivial
abbrev s_48:Stmt:=top 46
theorem sc_48:zal ["_law_exam_here","_law_todo"] ["_law_exam_here","_law_todo"] (zac s_48):=by trivial
abbrev s_49:Stmt:=top 47
theorem sc_49:zal ["_law_exam_here","_law_todo","_law_kinds_here","e"] ["_law_exam_here","_law_todo"] (zac s_49):=by trivial
abbrev s_51:Stmt:=top 49
theorem sc_51:zal ["_law_script","_law_cell","_law_kind","_law_homes","_law_staff","_law_k","_law_dealt","_law_exam_here","_law_todo","_law_due"] ["_law_script"] (zac s_51):=by trivial
set_option genInjectivity false in
set_option genSizeOf false in
structure Adr where
 f_43:Addr
 d_43:FuncData
 f_20:Addr
 d_20:FuncData
 f_35:Addr
 d_35:FuncData
 f_17:Addr
 d_17:FuncData
 f_23:Addr
 d_23:FuncData
 f_16:Addr
 d_16:FuncData
 f_18:Addr
 d_18:FuncData
 f_21:Addr
 d_21:FuncData
 f_22:Addr
 d_22:FuncData
 f_47:Addr
 d_47:FuncData
 f_44:Addr
 d_44:FuncData
 f_46:Addr
 d_46:FuncData
 f_36:Addr
 d_36:FuncData
 f_38:Addr
 d_38:FuncData
 f_37:Addr
 d_37:FuncData
 f_39:Addr
 d_39:FuncData
 f_15:Addr
 d_15:FuncData
 f_42:Addr
 d_42:FuncData
 f_1:Addr
 d_1:FuncData
 f_2:Addr
 d_2:FuncData
 f_19:Addr
 d_19:FuncData
 f_9:Addr
 d_9:FuncData
 f_8:Addr
 d_8:FuncData
 f_34:Addr
 d_34:FuncData
 f_41:Addr
 d_41:FuncData
 f_25:Addr
 d_25:FuncData
 f_45:Addr
 d_45:FuncData
 f_12:Addr
 d_12:FuncData
 f_7:Addr
 d_7:FuncData
 f_Attempt___init__:Addr
 d_Attempt___init__:FuncData
 f_Attempt_free_reading:Addr
 d_Attempt_free_reading:FuncData
 f_Attempt_find_reader:Addr
 d_Attempt_find_reader:FuncData
 f_3:Addr
 d_3:FuncData
 f_14:Addr
 d_14:FuncData
 f_13:Addr
 d_13:FuncData
 f_11:Addr
 d_11:FuncData
 f_10:Addr
 d_10:FuncData
 f_24:Addr
 d_24:FuncData
 f_50:Addr
 d_50:FuncData
 f_48:Addr
 d_48:FuncData
 f_49:Addr
 d_49:FuncData
 f_51:Addr
 d_51:FuncData
 C_Attempt:Addr
 C_Exam:Addr
 k_READERS_EACH:Value
 k_MOST_HOUSES:Value
 k_MOST_PAPERS:Value
 k_MOST_LIMIT:Value
 k_MOST_READERS:Value
 k_MOST_STEP:Value
 k_MOST_POINTS:Value
 xa:XAd
set_option genInjectivity false in
set_option genSizeOf false in
structure Txt (K:PySem.W.Frag) (mg:Str→Option Value) (t:Adr):Prop where
 F_43:Fun K "_law_at" "_law_at" s_43 t.f_43 t.d_43
 b_43:Binds K t.d_43 ["_law_script","_law_k"] []
 m_43:mg "_law_at"=some (.ref t.f_43)
 F_20:Fun K "__init__" "Exam.__init__" s_20 t.f_20 t.d_20
 b_20:Binds K t.d_20 ["self"] []
 mk_Exam:Mk K t.C_Exam t.f_20
 F_35:Fun K "refuse_behind_dealing" "Exam.refuse_behind_dealing" s_35 t.f_35 t.d_35
 b_35:Binds K t.d_35 ["self"] []
 me_35:Meth K t.C_Exam "refuse_behind_dealing" t.f_35
 F_17:Fun K "refuse_out_of_bounds" "refuse_out_of_bounds" s_17 t.f_17 t.d_17
 b_17:Binds K t.d_17 ["number","most"] []
 m_17:mg "refuse_out_of_bounds"=some (.ref t.f_17)
 F_23:Fun K "set_step" "Exam.set_step" s_23 t.f_23 t.d_23
 b_23:Binds K t.d_23 ["self","step"] []
 me_23:Meth K t.C_Exam "set_step" t.f_23
 F_16:Fun K "refuse_unknown" "refuse_unknown" s_16 t.f_16 t.d_16
 b_16:Binds K t.d_16 ["number","least","most"] []
 m_16:mg "refuse_unknown"=some (.ref t.f_16)
 F_18:Fun K "refuse_full" "refuse_full" s_18 t.f_18 t.d_18
 b_18:Binds K t.d_18 ["many","most"] []
 m_18:mg "refuse_full"=some (.ref t.f_18)
 F_21:Fun K "bring_paper" "Exam.bring_paper" s_21 t.f_21 t.d_21
 b_21:Binds K t.d_21 ["self","house"] []
 me_21:Meth K t.C_Exam "bring_paper" t.f_21
 F_22:Fun K "bring_reader" "Exam.bring_reader" s_22 t.f_22 t.d_22
 b_22:Binds K t.d_22 ["self","house","limit"] []
 me_22:Meth K t.C_Exam "bring_reader" t.f_22
 F_47:Fun K "_law_exam" "_law_exam" s_47 t.f_47 t.d_47
 b_47:Binds K t.d_47 ["_law_homes","_law_staff","_law_step","_law_turn"] []
 m_47:mg "_law_exam"=some (.ref t.f_47)
 F_44:Fun K "_law_whole" "_law_whole" s_44 t.f_44 t.d_44
 b_44:Binds K t.d_44 ["_law_found"] []
 m_44:mg "_law_whole"=some (.ref t.f_44)
 F_46:Fun K "_law_row" "_law_row" s_46 t.f_46 t.d_46
 b_46:Binds K t.d_46 ["_law_found","_law_due"] []
 m_46:mg "_law_row"=some (.ref t.f_46)
 F_36:Fun K "refuse_ahead_of_dealing" "Exam.refuse_ahead_of_dealing" s_36 t.f_36 t.d_36
 b_36:Binds K t.d_36 ["self"] []
 me_36:Meth K t.C_Exam "refuse_ahead_of_dealing" t.f_36
 F_38:Fun K "due_readers" "Exam.due_readers" s_38 t.f_38 t.d_38
 b_38:Binds K t.d_38 ["self","paper"] []
 me_38:Meth K t.C_Exam "due_readers" t.f_38
 F_37:Fun K "refuse_not_due" "Exam.refuse_not_due" s_37 t.f_37 t.d_37
 b_37:Binds K t.d_37 ["self","paper","reader"] []
 me_37:Meth K t.C_Exam "refuse_not_due" t.f_37
 F_39:Fun K "points_for" "Exam.points_for" s_39 t.f_39 t.d_39
 b_39:Binds K t.d_39 ["self","paper"] []
 me_39:Meth K t.C_Exam "points_for" t.f_39
 F_15:Fun K "agree" "agree" s_15 t.f_15 t.d_15
 b_15:Binds K t.d_15 ["one","other","step"] []
 m_15:mg "agree"=some (.ref t.f_15)
 F_42:Fun K "needs_third" "Exam.needs_third" s_42 t.f_42 t.d_42
 b_42:Binds K t.d_42 ["self","paper"] []
 me_42:Meth K t.C_Exam "needs_third" t.f_42
 F_1:Fun K "may_read" "may_read" s_1 t.f_1 t.d_1
 b_1:Binds K t.d_1 ["papers","readers","paper","reader"] []
 m_1:mg "may_read"=some (.ref t.f_1)
 F_2:Fun K "readers_for" "readers_for" s_2 t.f_2 t.d_2
 b_2:Binds K t.d_2 ["papers","readers","paper"] []
 m_2:mg "readers_for"=some (.ref t.f_2)
 F_19:Fun K "third_for" "third_for" s_19 t.f_19 t.d_19
 b_19:Binds K t.d_19 ["papers","readers","left","paper","row"] []
 m_19:mg "third_for"=some (.ref t.f_19)
 F_9:Fun K "times_in" "times_in" s_9 t.f_9 t.d_9
 b_9:Binds K t.d_9 ["rows","reader"] []
 m_9:mg "times_in"=some (.ref t.f_9)
 F_8:Fun K "left_after" "left_after" s_8 t.f_8 t.d_8
 b_8:Binds K t.d_8 ["readers","rows"] []
 m_8:mg "left_after"=some (.ref t.f_8)
 F_34:Fun K "left" "Exam.left" s_34 t.f_34 t.d_34
 b_34:Binds K t.d_34 ["self"] []
 me_34:Meth K t.C_Exam "left" t.f_34
 F_41:Fun K "name_third" "Exam.name_third" s_41 t.f_41 t.d_41
 b_41:Binds K t.d_41 ["self","paper"] []
 me_41:Meth K t.C_Exam "name_third" t.f_41
 F_25:Fun K "enter" "Exam.enter" s_25 t.f_25 t.d_25
 b_25:Binds K t.d_25 ["self","paper","reader","points"] []
 me_25:Meth K t.C_Exam "enter" t.f_25
 F_45:Fun K "_law_truth" "_law_truth" s_45 t.f_45 t.d_45
 b_45:Binds K t.d_45 ["_law_found","_law_due"] []
 m_45:mg "_law_truth"=some (.ref t.f_45)
 F_12:Fun K "pairs_of" "pairs_of" s_12 t.f_12 t.d_12
 b_12:Binds K t.d_12 ["numbers"] []
 m_12:mg "pairs_of"=some (.ref t.f_12)
 F_7:Fun K "keeps_to_limits" "keeps_to_limits" s_7 t.f_7 t.d_7
 b_7:Binds K t.d_7 ["readers","rows"] []
 m_7:mg "keeps_to_limits"=some (.ref t.f_7)
 F_Attempt___init__:Fun K "__init__" "Attempt.__init__" s_Attempt___init__ t.f_Attempt___init__ t.d_Attempt___init__
 b_Attempt___init__:Binds K t.d_Attempt___init__ ["self","papers","readers"] []
 mk_Attempt:Mk K t.C_Attempt t.f_Attempt___init__
 F_Attempt_free_reading:Fun K "free_reading" "Attempt.free_reading" s_Attempt_free_reading t.f_Attempt_free_reading t.d_Attempt_free_reading
 b_Attempt_free_reading:Binds K t.d_Attempt_free_reading ["self","reader","asked"] []
 me_Attempt_free_reading:Meth K t.C_Attempt "free_reading" t.f_Attempt_free_reading
 F_Attempt_find_reader:Fun K "find_reader" "Attempt.find_reader" s_Attempt_find_reader t.f_Attempt_find_reader t.d_Attempt_find_reader
 b_Attempt_find_reader:Binds K t.d_Attempt_find_reader ["self","paper","asked"] []
 me_Attempt_find_reader:Meth K t.C_Attempt "find_reader" t.f_Attempt_find_reader
 F_3:Fun K "readers_suffice" "readers_suffice" s_3 t.f_3 t.d_3
 b_3:Binds K t.d_3 ["papers","readers"] []
 m_3:mg "readers_suffice"=some (.ref t.f_3)
 F_14:Fun K "with_limits" "with_limits" s_14 t.f_14 t.d_14
 b_14:Binds K t.d_14 ["readers","limits"] []
 m_14:mg "with_limits"=some (.ref t.f_14)
 F_13:Fun K "can_go_on" "can_go_on" s_13 t.f_13 t.d_13
 b_13:Binds K t.d_13 ["papers","readers","rows"] []
 m_13:mg "can_go_on"=some (.ref t.f_13)
 F_11:Fun K "first_row_behind" "first_row_behind" s_11 t.f_11 t.d_11
 b_11:Binds K t.d_11 ["papers","readers","rows"] []
 m_11:mg "first_row_behind"=some (.ref t.f_11)
 F_10:Fun K "first_dealing" "first_dealing" s_10 t.f_10 t.d_10
 b_10:Binds K t.d_10 ["papers","readers"] []
 m_10:mg "first_dealing"=some (.ref t.f_10)
 F_24:Fun K "deal" "Exam.deal" s_24 t.f_24 t.d_24
 b_24:Binds K t.d_24 ["self"] []
 me_24:Meth K t.C_Exam "deal" t.f_24
 F_50:Fun K "_law_bad" "_law_bad" s_50 t.f_50 t.d_50
 b_50:Binds K t.d_50 ["_law_kind","_law_dealt","_law_cell","_law_homes","_law_count"] []
 m_50:mg "_law_bad"=some (.ref t.f_50)
 F_48:Fun K "_law_do" "_law_do" s_48 t.f_48 t.d_48
 b_48:Binds K t.d_48 ["_law_exam_here","_law_todo"] []
 m_48:mg "_law_do"=some (.ref t.f_48)
 F_49:Fun K "_law_kinds" "_law_kinds" s_49 t.f_49 t.d_49
 b_49:Binds K t.d_49 ["_law_exam_here","_law_todo"] []
 m_49:mg "_law_kinds"=some (.ref t.f_49)
 F_51:Fun K "law" "law" s_51 t.f_51 t.d_51
 b_51:Binds K t.d_51 ["_law_script"] []
 m_51:mg "law"=some (.ref t.f_51)
 cl_Attempt:Cls K t.C_Attempt
 mg_Attempt:mg "Attempt"=some (.ref t.C_Attempt)
 n_Attempt_allowed:zbp K t.C_Attempt "allowed"
 n_Attempt_given:zbp K t.C_Attempt "given"
 n_Attempt_spare:zbp K t.C_Attempt "spare"
 cl_Exam:Cls K t.C_Exam
 mg_Exam:mg "Exam"=some (.ref t.C_Exam)
 n_Exam_paper_houses:zbp K t.C_Exam "paper_houses"
 n_Exam_reader_rows:zbp K t.C_Exam "reader_rows"
 n_Exam_widest_step:zbp K t.C_Exam "widest_step"
 n_Exam_is_dealt:zbp K t.C_Exam "is_dealt"
 n_Exam_named_readers:zbp K t.C_Exam "named_readers"
 n_Exam_entered_points:zbp K t.C_Exam "entered_points"
 v_READERS_EACH:mg "READERS_EACH"=some t.k_READERS_EACH
 w_READERS_EACH:RelV (.int 2) t.k_READERS_EACH
 v_MOST_HOUSES:mg "MOST_HOUSES"=some t.k_MOST_HOUSES
 w_MOST_HOUSES:RelV (.int 6) t.k_MOST_HOUSES
 v_MOST_PAPERS:mg "MOST_PAPERS"=some t.k_MOST_PAPERS
 w_MOST_PAPERS:RelV (.int 10) t.k_MOST_PAPERS
 v_MOST_LIMIT:mg "MOST_LIMIT"=some t.k_MOST_LIMIT
 w_MOST_LIMIT:RelV (.int 30) t.k_MOST_LIMIT
 v_MOST_READERS:mg "MOST_READERS"=some t.k_MOST_READERS
 w_MOST_READERS:RelV (.int 8) t.k_MOST_READERS
 v_MOST_STEP:mg "MOST_STEP"=some t.k_MOST_STEP
 w_MOST_STEP:RelV (.int 100) t.k_MOST_STEP
 v_MOST_POINTS:mg "MOST_POINTS"=some t.k_MOST_POINTS
 w_MOST_POINTS:RelV (.int 100) t.k_MOST_POINTS
 mx_OutOfTime:mg "OutOfTime"=some (.ref t.xa.OutOfTime)
 mx_UnknownNumber:mg "UnknownNumber"=some (.ref t.xa.UnknownNumber)
 mx_NotDue:mg "NotDue"=some (.ref t.xa.NotDue)
 mx_OutOfBounds:mg "OutOfBounds"=some (.ref t.xa.OutOfBounds)
 mx_Full:mg "Full"=some (.ref t.xa.Full)
 mx_ReadError:mg "ReadError"=some (.ref t.xa.ReadError)
 xc_OutOfTime:ExcC K t.xa.OutOfTime
 xc_UnknownNumber:ExcC K t.xa.UnknownNumber
 xc_NotDue:ExcC K t.xa.NotDue
 xc_OutOfBounds:ExcC K t.xa.OutOfBounds
 xc_Full:ExcC K t.xa.Full
 x_OutOfTime_ReadError:PySem.W.exmOne K (.ref t.xa.OutOfTime) (.ref t.xa.ReadError)=some true
 x_UnknownNumber_ReadError:PySem.W.exmOne K (.ref t.xa.UnknownNumber) (.ref t.xa.ReadError)=some true
 x_NotDue_ReadError:PySem.W.exmOne K (.ref t.xa.NotDue) (.ref t.xa.ReadError)=some true
 x_OutOfBounds_ReadError:PySem.W.exmOne K (.ref t.xa.OutOfBounds) (.ref t.xa.ReadError)=some true
 x_Full_ReadError:PySem.W.exmOne K (.ref t.xa.Full) (.ref t.xa.ReadError)=some true
 xk_OutOfTime:ExK K t.xa.OutOfTime
 xk_UnknownNumber:ExK K t.xa.UnknownNumber
 xk_NotDue:ExK K t.xa.NotDue
 xk_OutOfBounds:ExK K t.xa.OutOfBounds
 xk_Full:ExK K t.xa.Full
 i_OutOfTime_UnknownNumber:PySem.W.mroIn K t.xa.OutOfTime (.ref t.xa.UnknownNumber)=some false
 i_OutOfTime_NotDue:PySem.W.mroIn K t.xa.OutOfTime (.ref t.xa.NotDue)=some false
 i_OutOfTime_OutOfBounds:PySem.W.mroIn K t.xa.OutOfTime (.ref t.xa.OutOfBounds)=some false
 i_OutOfTime_Full:PySem.W.mroIn K t.xa.OutOfTime (.ref t.xa.Full)=some false
 i_UnknownNumber_OutOfTime:PySem.W.mroIn K t.xa.UnknownNumber (.ref t.xa.OutOfTime)=some false
 i_UnknownNumber_NotDue:PySem.W.mroIn K t.xa.UnknownNumber (.ref t.xa.NotDue)=some false
 i_UnknownNumber_OutOfBounds:PySem.W.mroIn K t.xa.UnknownNumber (.ref t.xa.OutOfBounds)=some false
 i_UnknownNumber_Full:PySem.W.mroIn K t.xa.UnknownNumber (.ref t.xa.Full)=some false
 i_NotDue_OutOfTime:PySem.W.mroIn K t.xa.NotDue (.ref t.xa.OutOfTime)=some false
 i_NotDue_UnknownNumber:PySem.W.mroIn K t.xa.NotDue (.ref t.xa.UnknownNumber)=some false
 i_NotDue_OutOfBounds:PySem.W.mroIn K t.xa.NotDue (.ref t.xa.OutOfBounds)=some false
 i_NotDue_Full:PySem.W.mroIn K t.xa.NotDue (.ref t.xa.Full)=some false
 i_OutOfBounds_OutOfTime:PySem.W.mroIn K t.xa.OutOfBounds (.ref t.xa.OutOfTime)=some false
 i_OutOfBounds_UnknownNumber:PySem.W.mroIn K t.xa.OutOfBounds (.ref t.xa.UnknownNumber)=some false
 i_OutOfBounds_NotDue:PySem.W.mroIn K t.xa.OutOfBounds (.ref t.xa.NotDue)=some false
 i_OutOfBounds_Full:PySem.W.mroIn K t.xa.OutOfBounds (.ref t.xa.Full)=some false
 i_Full_OutOfTime:PySem.W.mroIn K t.xa.Full (.ref t.xa.OutOfTime)=some false
 i_Full_UnknownNumber:PySem.W.mroIn K t.xa.Full (.ref t.xa.UnknownNumber)=some false
 i_Full_NotDue:PySem.W.mroIn K t.xa.Full (.ref t.xa.NotDue)=some false
 i_Full_OutOfBounds:PySem.W.mroIn K t.xa.Full (.ref t.xa.OutOfBounds)=some false
 z_ValueError:mg "ValueError"=none
 z_abs:mg "abs"=none
 z_all:mg "all"=none
 z_bool:mg "bool"=none
 z_enumerate:mg "enumerate"=none
 z_int:mg "int"=none
 z_isinstance:mg "isinstance"=none
 z_len:mg "len"=none
 z_list:mg "list"=none
 z_range:mg "range"=none
 z_zip:mg "zip"=none
end Prf
namespace Prf
open PySem PySem.Spec PyProof.Rows L2
section
variable {P:Program} {w:World} {K:PySem.W.Frag} {mg:Str→Option Value} {base:Heap} {t:Adr}
def zfa (K:PySem.W.Frag):Sp:=fun vs H Q _=>vs.length=2∧∃ (a:Addr) (ns:List Int) (k:Int),vs=[.ref a,.int k]∧SqL K H a (ns.map V.int)∧ns.length≤63∧Q (.int (zdX ns k)) H
theorem zib (T:Txt K mg t):FnOk P w K mg base CX0 1 t.f_43 t.d_43 ["_law_script","_law_k"] (zfa K):=by
 refine T.F_43.ok sc_43 (fun _ _ _ _ h=>h.1) fun cdv A outer s H vs Q E hr h=>by
  refine ⟨_,(zad (zaY (zas (za4 (K:=K) rfl hr.units0) (zaj (zaq (K:=K) rfl) (by rfl) T.z_len (by rfl) (zaa (pv 0) pa_nil)) zab (zaA _))
   (zae (zan zab)) pss_nil)
   (zae (zan (zap (op_addG) (zaM (zah (K:=K) rfl) (pv 0) (zap (op_mod) (pv 1) (zaj (zaq (K:=K) rfl) (by rfl) T.z_len (by rfl) (zaa (pv 0) pa_nil))) (fun _ _=>rfl)) (zap (op_fdivB) (pv 1) (zaj (zaq (K:=K) rfl) (by rfl) T.z_len (by rfl) (zaa (pv 0) pa_nil))))))),?_⟩
  obtain ⟨_,a,ns,k,rfl,hS,hl,q⟩:=h;symm;unfold zdX at q;refine zb1 (fun h0=>?_) (fun h0=>?_)
  ·rw [if_pos h0] at q;symm;exact q
  ·rw [if_neg h0] at q;have h3:(0:Int) < ns.length:=by omega
   symm;refine zcy hS (zf5 (Int.emod_nonneg _ h0) (Int.emod_lt_of_pos _ h3)) ?_;symm;exact q
theorem zgl {H:Hp} {a:Addr} {ns:List Int} {k:Int} {Q:VK} {E:XK} (h:SqL K H a (ns.map V.int)) (hl:ns.length≤63) (q:Q (.int (zdX ns k)) H):zfa K [.ref a,.int k] H Q E:=⟨rfl,a,ns,k,rfl,h,hl,q⟩
local macro_rules | `(tactic| walk_at "rd1")=>`(tactic| ((with_reducible refine' zgl ?h1 ?h2 ?_);(case h1=>walk_at "hp");(case h2=>omega)))
def zcd (K:PySem.W.Frag) (C:Addr):Sp:=fun vs H Q _=>vs.length=1∧∃ (x dx:Addr),vs=[.ref x]∧H x=some (.ins C dx [])∧∀ H' F,(∀ b o,H b=some o→b≠x→b≠dx→H' b=some o)→(∀ b,F b→b=x∨b=dx∨H b=none)→ExAt C H' x F ⟨[],[],0,none⟩→Q .non H'
theorem zdp (T:Txt K mg t):FnOk P w K mg base CX0 1 t.f_20 t.d_20 ["self"] (zcd K t.C_Exam):=by
 refine T.F_20.ok sc_20 (fun _ _ _ _ h=>h.1) fun cdv A outer s H vs Q E hr h=>by
  refine ⟨_,(zad (zbx (K:=K) rfl (pv 0) (zax pa_nil))
   (zad (zbx (K:=K) rfl (pv 0) (zax pa_nil))
   (zad (zbx (K:=K) rfl (pv 0) zab)
   (zad (zbx (K:=K) rfl (pv 0) zb4)
   (zad (zbx (K:=K) rfl (pv 0) (zax pa_nil))
   (zae (zbx (K:=K) rfl (pv 0) (zax pa_nil)))))))),?_⟩
  obtain ⟨_,x,dx,rfl,hx,q⟩:=h;have hcl:=T.cl_Exam;have nA:=T.n_Exam_paper_houses;have nB:=T.n_Exam_reader_rows;have nS:=T.n_Exam_widest_step;have nD:=T.n_Exam_is_dealt;have nC:=T.n_Exam_named_readers;have nE:=T.n_Exam_entered_points;symm;refine zai (by decide) fun a H1 f1 s1 e1=>?_;have x1:=s1 _ _ hx;symm;refine zaS x1 hcl nA (Nat.lt_of_lt_of_le (show 0 < 1 by decide) (by decide)) fun H2 b2 x2=>?_;have xa:=zag hx f1;symm;refine zai (by decide) fun b H3 f3 s3 e3=>?_;have x3:=s3 _ _ x2;symm;have e2:H2 a=some (.lst []):=by rw [b2 _ xa.symm];exact e1
  have ab:=zag e2 f3;have xb:=zag x2 f3;refine zaS x3 hcl nB (Nat.lt_of_lt_of_le (zbF (show 0 < 1 by decide)) (by decide)) fun H4 b4 x4=>?_;symm;refine zaS x4 hcl nS (Nat.lt_of_lt_of_le (zbF (zbF (show 0 < 1 by decide))) (by decide)) fun H5 b5 x5=>?_;symm;refine zaS x5 hcl nD (Nat.lt_of_lt_of_le (zbF (zbF (zbF (show 0 < 1 by decide)))) (by decide)) fun H6 b6 x6=>?_;symm;refine zai (by decide) fun c H7 f7 s7 e7=>?_;have x7:=s7 _ _ x6;have a6:H6 a=some (.lst []):=by rw [b6 _ xa.symm,b5 _ xa.symm,b4 _ xa.symm];exact s3 _ _ e2
  have b6':H6 b=some (.lst []):=by rw [b6 _ xb.symm,b5 _ xb.symm,b4 _ xb.symm];exact e3
  have ac:=zag a6 f7;have bc:=zag b6' f7;have xc:=zag x6 f7;symm;refine zaS x7 hcl nC (Nat.lt_of_lt_of_le (zbF (zbF (zbF (zbF (show 0 < 1 by decide))))) (by decide)) fun H8 b8 x8=>?_;have a8:H8 a=some (.lst []):=by rw [b8 _ xa.symm];exact s7 _ _ a6
  have b8':H8 b=some (.lst []):=by rw [b8 _ xb.symm];exact s7 _ _ b6'
  have c8:H8 c=some (.lst []):=by rw [b8 _ xc.symm];exact e7
  symm;refine zai (by decide) fun d H9 f9 s9 e9=>?_;have x9:=s9 _ _ x8;have ad:=zag a8 f9;have bd:=zag b8' f9;have cd:=zag c8 f9;have xd:=zag x8 f9;symm;refine zaS x9 hcl nE (Nat.lt_of_lt_of_le (zbF (zbF (zbF (zbF (zbF (show 0 < 1 by decide)))))) (by decide)) fun H10 b10 x10=>?_;symm;rw [exFs_mk] at x10;have kp:∀ b o,H b=some o→b≠x→H10 b=some o:=fun z o h n=>by
   rw [b10 _ n];refine s9 _ _ ?_;rw [b8 _ n];refine s7 _ _ ?_;rw [b6 _ n,b5 _ n,b4 _ n];refine s3 _ _ ?_;rw [b2 _ n];exact s1 _ _ h
  have nn:∀ b,H2 b=none→H b=none:=fun z h=>by
   cases hz:H z with
   | none=>rfl
   | some o =>
     by_cases n:z=x
     ·rw [n,x2] at h;cases h
     ·rw [b2 _ n,s1 _ _ hz] at h;cases h
  have nn6:∀ b,H6 b=none→H b=none:=fun z h=>nn z (by
   cases hz:H2 z with
   | none=>rfl
   | some o =>
     by_cases n:z=x
     ·rw [n,x6] at h;cases h
     ·rw [b6 _ n,b5 _ n,b4 _ n,s3 _ _ hz] at h;cases h)
  have nn8:∀ b,H8 b=none→H b=none:=fun z h=>nn6 z (by
   cases hz:H6 z with
   | none=>rfl
   | some o =>
     by_cases n:z=x
     ·rw [n,x8] at h;cases h
     ·rw [b8 _ n,s7 _ _ hz] at h;cases h)
  have J:ExIn t.C_Exam H10 ⟨x,dx,a,b,c,d,[],[],[]⟩ ⟨[],[],0,none⟩ []:=by
   refine ⟨x10,by show H10 a=_;rw [b10 _ xa.symm];exact s9 _ _ a8,by show H10 b=_;rw [b10 _ xb.symm];exact s9 _ _ b8',by show H10 c=_;rw [b10 _ xc.symm];exact s9 _ _ c8,by show H10 d=_;rw [b10 _ xd.symm];exact e9,rfl,rfl,rfl,fun i hi=>absurd hi (by simp),fun i hi=>absurd hi (by simp [ExS.nm]),fun i hi=>absurd hi (by simp [ExS.nm]),fun i hi=>absurd hi (by simp [ExS.nm]),fun i hi=>absurd hi (by simp [ExS.nm]),rfl,?_,⟨fun z=>(by cases z),fun k hk=>absurd hk (by simp [ExS.nm]),fun k r p z=>(by cases z),by decide⟩⟩;unfold ExAd.own;simp only [nodup_cons,mem_cons,append_nil,not_mem_nil,not_or,not_false_iff,nodup_nil,and_true];exact ⟨⟨xa,xb,xc,xd⟩,⟨ab,ac,ad⟩,⟨bc,bd⟩,cd⟩
  refine q H10 _ (fun z o h n _=>kp z o h n) (fun z h=>?_) J.at;unfold ExAd.own at h;simp only [mem_cons,append_nil,not_mem_nil,or_false] at h;rcases h with h | h | h | h | h
  ·exact .inl h
  ·exact .inr (.inr (h▸f1))
  ·exact .inr (.inr (h▸nn _ f3))
  ·exact .inr (.inr (h▸nn6 _ f7))
  ·exact .inr (.inr (h▸nn8 _ f9))
theorem zfG {K:PySem.W.Frag} {C x dx:Addr} {H:Hp} {Q:VK} {E:XK} (h:H x=some (.ins C dx [])) (q:∀ H' F,(∀ b o,H b=some o→b≠x→b≠dx→H' b=some o)→(∀ b,F b→b=x∨b=dx∨H b=none)→ExAt C H' x F ⟨[],[],0,none⟩→Q .non H'):zcd K C [.ref x] H Q E:=⟨rfl,x,dx,rfl,h,q⟩
def zaX (K:PySem.W.Frag) (C:Addr) (xa:XAd):Sp:=fun vs H Q E=>vs.length=1∧∃ (x:Addr) (F:Addr→Prop) (st:ExS),vs=[.ref x]∧ExAt C H x F st∧(st.dl=none→Q .non H)∧(st.dl.isSome=true→E (.ref xa.OutOfTime) none H)
theorem zaz (T:Txt K mg t):FnOk P w K mg base (CX1 P w) 1 t.f_35 t.d_35 ["self"] (zaX K t.C_Exam t.xa):=by
 refine T.F_35.okX sc_35 (fun _ _ _ _ h=>h.1) fun cdv A outer s H vs Q E hr h=>by
  refine ⟨_,(zae (zaY (zaJ (K:=K) rfl (zay (K:=K) rfl (pv 0)) (fun _=>rfl))
   (zae (zcx (by rfl) T.mx_OutOfTime T.xc_OutOfTime)) pss_nil)),?_⟩
  obtain ⟨_,x,F,st,rfl,E0,q1,q2⟩:=h;walk_at "hd";symm;refine zlJ (fun hd=>?_) (fun hd=>?_)
  ·symm;exact q2 hd
  ·symm;exact q1 (zew (by rw [hd];decide))
theorem zaP {K:PySem.W.Frag} {xa:XAd} {C x:Addr} {H:Hp} {F:Addr→Prop} {st:ExS} {Q:VK} {E:XK} {σ:L2.St} (h:ExAt C H x F st) (q1:st.dl=none→Q .non H) (q2:st.dl.isSome=true→E (.ref xa.OutOfTime) none H):zbH C "refuse_behind_dealing" (zaX K C xa) E tNil σ (.ref x) H Q:=by
 obtain ⟨dx,fs,e,l⟩:=h.ob;exact zau e (l _ (by decide +kernel)) (zeN ⟨rfl,x,F,st,rfl,h,q1,q2⟩)
def zbr (K:PySem.W.Frag) (xa:XAd):Sp:=fun vs H Q E=>vs.length=2∧∃ n m:Int,vs=[.int n,.int m]∧(0≤n→n≤m→Q .non H)∧(¬(0≤n∧n≤m)→E (.ref xa.OutOfBounds) none H)
theorem zaV (T:Txt K mg t):FnOk P w K mg base (CX1 P w) 1 t.f_17 t.d_17 ["number","most"] (zbr K t.xa):=by
 refine T.F_17.okX sc_17 (fun _ _ _ _ h=>h.1) fun cdv A outer s H vs Q E hr h=>by
  refine ⟨_,(zae (zaY (zfo (zas (op_lt) (pv 0) zab (zaA _)) (zdx (zas (op_gt) (pv 0) (pv 1) (zaA _)))).pt
   (zae (zcx (by rfl) T.mx_OutOfBounds T.xc_OutOfBounds)) pss_nil)),?_⟩
  obtain ⟨_,n,m,rfl,q1,q2⟩:=h;symm;refine zb1 (fun h0=>?_) (fun h0=>?_)
  ·refine iteT ?_;symm;exact q2 (by omega)
  ·symm;refine zb1 (fun h1=>?_) (fun h1=>?_)
   ·symm;exact q2 (by omega)
   ·symm;exact q1 (by omega) (by omega)
theorem zaZ {xa:XAd} {H:Hp} {n m:Int} {Q:VK} {E:XK} (q1:0≤n→n≤m→Q .non H) (q2:¬(0≤n∧n≤m)→E (.ref xa.OutOfBounds) none H):zbr K xa [.int n,.int m] H Q E:=⟨rfl,n,m,rfl,q1,q2⟩
def zbE (K:PySem.W.Frag) (C:Addr) (xa:XAd):Sp:=fun vs H Q E=>vs.length=2∧∃ (x:Addr) (F:Addr→Prop) (st:ExS) (s:Int),vs=[.ref x,.int s]∧ExAt C H x F st∧InB st.hs st.rs∧(∀ f,whyS st s=some f→E (.ref (xa.at f)) none H)∧(whyS st s=none→∀ H' F',ExFr H H' F F'→ExAt C H' x F' { st with step:=s }→Q (.int s) H')
theorem zce (T:Txt K mg t):FnOk P w K mg base (CX1 P w) 2 t.f_23 t.d_23 ["self","step"] (zbE K t.C_Exam t.xa):=by
 have G_35:=zaz (P:=P) (w:=w) (base:=base) T;have G_17:=zaV (P:=P) (w:=w) (base:=base) T;refine T.F_23.okX sc_23 (fun _ _ _ _ h=>h.1) fun cdv A outer s H vs Q E hr h=>by
  refine ⟨_,(zad (zaE (zbQ (pv 0) T.cl_Exam T.me_35 G_35 (hr.mono (by decide)) T.b_35 .nil passX))
   (zad (zaE (zar G_17 (hr.mono (by decide)) (by rfl) T.m_17 T.F_17.kp T.b_17 .nil passX (zaa (pv 1) (zaa (zbv (v:=.int 100) (by rfl) T.v_MOST_STEP T.w_MOST_STEP) pa_nil))))
   (zad (zbx (K:=K) rfl (pv 0) (pv 1))
   (zae (zan (pv 1)))))),?_⟩
  obtain ⟨_,x,F,st,s,rfl,E0,BB,qe,q⟩:=h;have E0':=E0;walk_at "hd";symm;refine zaP E0' (fun hd=>?_) (fun hd=>qe .time (by unfold whyS;rw [if_pos hd]));symm;refine zaZ (fun h3 h4=>?_) (fun hn=>qe .bounds (by unfold whyS;rw [hd,if_neg (by decide),if_neg hn]));have hp:=And.intro h3 h4;have q:=q (ze4 hd hp);symm;refine zaS hob hcl nS (show 6 < 1000 by decide) fun H1 b1 e1=>?_;have I1:=I.setStep b1 e1 hp;symm;exact q H1 F (ExFr.but b1 ((hF _).mpr own_x) fun b z=>.inl z) ⟨e,kvs,rfl,hF,I1⟩
theorem zdM {K:PySem.W.Frag} {xa:XAd} {C x:Addr} {H:Hp} {F:Addr→Prop} {st:ExS} {s:Int} {Q:VK} {E:XK} (hE:ExAt C H x F st) (B:InB st.hs st.rs) (hd:st.dl=none) (hp:(0≤s∧s≤100)) (q:∀ H' F',ExFr H H' F F'→ExAt C H' x F' { st with step:=s }→Q (.int s) H'):zbE K C xa [.ref x,.int s] H Q E:=⟨rfl,x,F,st,s,rfl,hE,B,fun f z=>(by rw [ze4 hd hp] at z;cases z),fun _=>q⟩
theorem zdN {K:PySem.W.Frag} {xa:XAd} {C x:Addr} {H:Hp} {F:Addr→Prop} {st:ExS} {s:Int} {Q:VK} {E:XK} (hE:ExAt C H x F st) (B:InB st.hs st.rs) (qe:∀ f,whyS st s=some f→E (.ref (xa.at f)) none H) (q:whyS st s=none→∀ H' F',ExFr H H' F F'→ExAt C H' x F' { st with step:=s }→Q (.int s) H'):zbE K C xa [.ref x,.int s] H Q E:=⟨rfl,x,F,st,s,rfl,hE,B,qe,q⟩
local macro_rules | `(tactic| walk_at "rd1")=>`(tactic| (with_reducible refine zh4 ?_))
local macro_rules | `(tactic| walk_at "rd1")=>`(tactic| (with_reducible refine r_methX ?_))
local macro_rules | `(tactic| walk_at "rd1")=>`(tactic| (with_reducible refine zh3 ?_))
local macro_rules | `(tactic| walk_at "rd1")=>`(tactic| (with_reducible refine r_eq2S ?_))
def zb5 (K:PySem.W.Frag) (xa:XAd):Sp:=fun vs H Q E=>vs.length=3∧∃ n l m:Int,vs=[.int n,.int l,.int m]∧(l≤n→n≤m→Q .non H)∧(¬(l≤n∧n≤m)→E (.ref xa.UnknownNumber) none H)
theorem zby (T:Txt K mg t):FnOk P w K mg base (CX1 P w) 1 t.f_16 t.d_16 ["number","least","most"] (zb5 K t.xa):=by
 refine T.F_16.okX sc_16 (fun _ _ _ _ h=>h.1) fun cdv A outer s H vs Q E hr h=>by
  refine ⟨_,(zae (zaY (zfo (zas (op_lt) (pv 0) (pv 1) (zaA _)) (zdx (zas (op_gt) (pv 0) (pv 2) (zaA _)))).pt
   (zae (zcx (by rfl) T.mx_UnknownNumber T.xc_UnknownNumber)) pss_nil)),?_⟩
  obtain ⟨_,n,l,m,rfl,q1,q2⟩:=h;symm;refine zb1 (fun h0=>?_) (fun h0=>?_)
  ·refine iteT ?_;symm;exact q2 (by omega)
  ·symm;refine zb1 (fun h1=>?_) (fun h1=>?_)
   ·symm;exact q2 (by omega)
   ·symm;exact q1 (by omega) (by omega)
theorem zbf {xa:XAd} {H:Hp} {n l m:Int} {Q:VK} {E:XK} (q1:l≤n→n≤m→Q .non H) (q2:¬(l≤n∧n≤m)→E (.ref xa.UnknownNumber) none H):zb5 K xa [.int n,.int l,.int m] H Q E:=⟨rfl,n,l,m,rfl,q1,q2⟩
def zcD (K:PySem.W.Frag) (xa:XAd):Sp:=fun vs H Q E=>vs.length=2∧∃ n m:Int,vs=[.int n,.int m]∧(n < m→Q .non H)∧(¬n < m→E (.ref xa.Full) none H)
theorem zcE (T:Txt K mg t):FnOk P w K mg base (CX1 P w) 1 t.f_18 t.d_18 ["many","most"] (zcD K t.xa):=by
 refine T.F_18.okX sc_18 (fun _ _ _ _ h=>h.1) fun cdv A outer s H vs Q E hr h=>by
  refine ⟨_,(zae (zaY (zas (op_ge) (pv 0) (pv 1) (zaA _))
   (zae (zcx (by rfl) T.mx_Full T.xc_Full)) pss_nil)),?_⟩
  obtain ⟨_,n,m,rfl,q1,q2⟩:=h;symm;refine zb1 (fun h0=>?_) (fun h0=>?_)
  ·symm;exact q2 (by omega)
  ·symm;exact q1 (by omega)
theorem zcW {xa:XAd} {H:Hp} {n m:Int} {Q:VK} {E:XK} (q1:n < m→Q .non H) (q2:¬n < m→E (.ref xa.Full) none H):zcD K xa [.int n,.int m] H Q E:=⟨rfl,n,m,rfl,q1,q2⟩
def zbh (K:PySem.W.Frag) (C:Addr) (xa:XAd):Sp:=fun vs H Q E=>vs.length=2∧∃ (x:Addr) (F:Addr→Prop) (st:ExS) (h:Int),vs=[.ref x,.int h]∧ExAt C H x F st∧InB st.hs st.rs∧(∀ f,whyP st h=some f→E (.ref (xa.at f)) none H)∧(whyP st h=none→∀ H' F',ExFr H H' F F'→ExAt C H' x F' { st with hs:=st.hs++[h] }→Q (.int ((st.hs.length:Int)+1)) H')
theorem zbi (T:Txt K mg t):FnOk P w K mg base (CX1 P w) 2 t.f_21 t.d_21 ["self","house"] (zbh K t.C_Exam t.xa):=by
 have G_35:=zaz (P:=P) (w:=w) (base:=base) T;have G_16:=zby (P:=P) (w:=w) (base:=base) T;have G_18:=zcE (P:=P) (w:=w) (base:=base) T;refine T.F_21.okX sc_21 (fun _ _ _ _ h=>h.1) fun cdv A outer s H vs Q E hr h=>by
  refine ⟨_,(zad (zaE (zbQ (pv 0) T.cl_Exam T.me_35 G_35 (hr.mono (by decide)) T.b_35 .nil passX))
   (zad (zaE (zar G_16 (hr.mono (by decide)) (by rfl) T.m_16 T.F_16.kp T.b_16 .nil passX (zaa (pv 1) (zaa zab (zaa (zbv (v:=.int 6) (by rfl) T.v_MOST_HOUSES T.w_MOST_HOUSES) pa_nil)))))
   (zad (zaE (zar G_18 (hr.mono (by decide)) (by rfl) T.m_18 T.F_18.kp T.b_18 .nil passX (zaa (zaj (zaq (K:=K) rfl) (by rfl) T.z_len (by rfl) (zaa (zay (K:=K) rfl (pv 0)) pa_nil)) (zaa (zbv (v:=.int 10) (by rfl) T.v_MOST_PAPERS T.w_MOST_PAPERS) pa_nil))))
   (zad (zaE (zdh (K:=K) rfl PySem.F.plainAttrs_list PySem.F.slot_list_append PySem.F.type_list_append mt_append (zay (K:=K) rfl (pv 0)) (zaa (pv 1) pa_nil)))
   (zae (zan (zaj (zaq (K:=K) rfl) (by rfl) T.z_len (by rfl) (zaa (zay (K:=K) rfl (pv 0)) pa_nil)))))))),?_⟩
  obtain ⟨_,x,F,st,h,rfl,E0,BB,qe,q⟩:=h;have E0':=E0;walk_at "hd";symm;refine zaP E0' (fun hd=>?_) (fun hd=>qe .time (by unfold whyP;rw [if_pos hd]));symm;refine zbf (fun h1 h2=>?_) (fun hn=>qe .unknown (by unfold whyP;rw [hd,if_neg (by decide),if_neg hn]));symm;refine zcW (fun h3=>?_) (fun hn=>qe .full (by unfold whyP;rw [hd,if_neg (by decide),if_pos ⟨h1,h2⟩,if_neg (by omega)]));have q:=q (ze2 hd ⟨h1,h2,by omega⟩);symm;refine zbg hha (by rw [length_map];omega) fun H1 b1 e1=>?_;have I1:=I.paper hd b1 e1;have hob:=I1.ob;have e1':=I1.ha;symm;have el:((st.hs++[h]).length:Int)=(st.hs.length:Int)+1:=by rw [length_append,length_singleton];omega
  rw [el];exact q H1 F (ExFr.but b1 ((hF _).mpr own_a) fun b z=>.inl z) ⟨e,kvs,rfl,hF,I1⟩
theorem zbs {K:PySem.W.Frag} {xa:XAd} {C x:Addr} {H:Hp} {F:Addr→Prop} {st:ExS} {h:Int} {Q:VK} {E:XK} (hE:ExAt C H x F st) (B:InB st.hs st.rs) (hd:st.dl=none) (hp:(1≤h∧h≤6∧st.hs.length < 10)) (q:∀ H' F',ExFr H H' F F'→ExAt C H' x F' { st with hs:=st.hs++[h] }→Q (.int ((st.hs.length:Int)+1)) H'):zbh K C xa [.ref x,.int h] H Q E:=⟨rfl,x,F,st,h,rfl,hE,B,fun f z=>(by rw [ze2 hd hp] at z;cases z),fun _=>q⟩
theorem zcX {K:PySem.W.Frag} {xa:XAd} {C x:Addr} {H:Hp} {F:Addr→Prop} {st:ExS} {h:Int} {Q:VK} {E:XK} (hE:ExAt C H x F st) (B:InB st.hs st.rs) (qe:∀ f,whyP st h=some f→E (.ref (xa.at f)) none H) (q:whyP st h=none→∀ H' F',ExFr H H' F F'→ExAt C H' x F' { st with hs:=st.hs++[h] }→Q (.int ((st.hs.length:Int)+1)) H'):zbh K C xa [.ref x,.int h] H Q E:=⟨rfl,x,F,st,h,rfl,hE,B,qe,q⟩
def za8 (K:PySem.W.Frag) (C:Addr) (xa:XAd):Sp:=fun vs H Q E=>vs.length=3∧∃ (x:Addr) (F:Addr→Prop) (st:ExS) (h:Int) (l:Int),vs=[.ref x,.int h,.int l]∧ExAt C H x F st∧InB st.hs st.rs∧(∀ f,whyR st h l=some f→E (.ref (xa.at f)) none H)∧(whyR st h l=none→∀ H' F',ExFr H H' F F'→ExAt C H' x F' { st with rs:=st.rs++[[h,l]] }→Q (.int ((st.rs.length:Int)+1)) H')
theorem za9 (T:Txt K mg t):FnOk P w K mg base (CX1 P w) 2 t.f_22 t.d_22 ["self","house","limit"] (za8 K t.C_Exam t.xa):=by
 have G_35:=zaz (P:=P) (w:=w) (base:=base) T;have G_16:=zby (P:=P) (w:=w) (base:=base) T;have G_17:=zaV (P:=P) (w:=w) (base:=base) T;have G_18:=zcE (P:=P) (w:=w) (base:=base) T;refine T.F_22.okX sc_22 (fun _ _ _ _ h=>h.1) fun cdv A outer s H vs Q E hr h=>by
  refine ⟨_,(zad (zaE (zbQ (pv 0) T.cl_Exam T.me_35 G_35 (hr.mono (by decide)) T.b_35 .nil passX))
   (zad (zaE (zar G_16 (hr.mono (by decide)) (by rfl) T.m_16 T.F_16.kp T.b_16 .nil passX (zaa (pv 1) (zaa zab (zaa (zbv (v:=.int 6) (by rfl) T.v_MOST_HOUSES T.w_MOST_HOUSES) pa_nil)))))
   (zad (zaE (zar G_17 (hr.mono (by decide)) (by rfl) T.m_17 T.F_17.kp T.b_17 .nil passX (zaa (pv 2) (zaa (zbv (v:=.int 30) (by rfl) T.v_MOST_LIMIT T.w_MOST_LIMIT) pa_nil))))
   (zad (zaE (zar G_18 (hr.mono (by decide)) (by rfl) T.m_18 T.F_18.kp T.b_18 .nil passX (zaa (zaj (zaq (K:=K) rfl) (by rfl) T.z_len (by rfl) (zaa (zay (K:=K) rfl (pv 0)) pa_nil)) (zaa (zbv (v:=.int 8) (by rfl) T.v_MOST_READERS T.w_MOST_READERS) pa_nil))))
   (zad (zaE (zdh (K:=K) rfl PySem.F.plainAttrs_list PySem.F.slot_list_append PySem.F.type_list_append mt_append (zay (K:=K) rfl (pv 0)) (zaa (zax (zaa (pv 1) (zaa (pv 2) pa_nil))) pa_nil)))
   (zae (zan (zaj (zaq (K:=K) rfl) (by rfl) T.z_len (by rfl) (zaa (zay (K:=K) rfl (pv 0)) pa_nil))))))))),?_⟩
  obtain ⟨_,x,F,st,h,l,rfl,E0,BB,qe,q⟩:=h;have E0':=E0;walk_at "hd";have lp:=I.lp;symm;refine zaP E0' (fun hd=>?_) (fun hd=>qe .time (by unfold whyR;rw [if_pos hd]));symm;refine zbf (fun h1 h2=>?_) (fun hn=>qe .unknown (by unfold whyR;rw [hd,if_neg (by decide),if_neg hn]));symm;refine zaZ (fun h3 h4=>?_) (fun hn=>qe .bounds (by unfold whyR;rw [hd,if_neg (by decide),if_pos ⟨h1,h2⟩,if_neg hn]));symm;refine zcW (fun h5=>?_) (fun hn=>qe .full (by unfold whyR;rw [hd,if_neg (by decide),if_pos ⟨h1,h2⟩,if_pos ⟨h3,h4⟩,if_neg (by omega)]));have q:=q (ze3 hd ⟨h1,h2,h3,h4,by omega⟩);symm;refine zai (by simp) fun r H1 f1 s1 e1=>?_;symm;refine zbg (s1 _ _ hhb) (by rw [length_map];omega) fun H2 b2 e2=>?_;have I1:ExIn t.C_Exam H1 e st kvs:=I.keep fun b o _ z=>s1 b o z;have I2:=I1.reader (row:=[h,l]) (I.new f1) e1 b2 e2;have hob:=I2.ob;have e1':=I2.hb;symm;have el:((e.ps++[r]).length:Int)=(st.rs.length:Int)+1:=by rw [length_append,length_singleton];omega
  rw [el];refine q H2 _ ⟨fun b o eb nb=>?_,fun b z=>?_⟩ I2.at
  ·rw [b2 _ (fun z=>nb ((hF _).mpr (by rw [z];exact own_b)))];exact s1 _ _ eb
  ·rcases zgK z with z | z
   ·exact .inl ((hF b).mpr z)
   ·exact .inr (z▸f1)
theorem zbM {K:PySem.W.Frag} {xa:XAd} {C x:Addr} {H:Hp} {F:Addr→Prop} {st:ExS} {h:Int} {l:Int} {Q:VK} {E:XK} (hE:ExAt C H x F st) (B:InB st.hs st.rs) (hd:st.dl=none) (hp:(0≤h∧h≤6∧0≤l∧l≤30∧st.rs.length < 8)) (q:∀ H' F',ExFr H H' F F'→ExAt C H' x F' { st with rs:=st.rs++[[h,l]] }→Q (.int ((st.rs.length:Int)+1)) H'):za8 K C xa [.ref x,.int h,.int l] H Q E:=⟨rfl,x,F,st,h,l,rfl,hE,B,fun f z=>(by rw [ze3 hd hp] at z;cases z),fun _=>q⟩
theorem zcK {K:PySem.W.Frag} {xa:XAd} {C x:Addr} {H:Hp} {F:Addr→Prop} {st:ExS} {h:Int} {l:Int} {Q:VK} {E:XK} (hE:ExAt C H x F st) (B:InB st.hs st.rs) (qe:∀ f,whyR st h l=some f→E (.ref (xa.at f)) none H) (q:whyR st h l=none→∀ H' F',ExFr H H' F F'→ExAt C H' x F' { st with rs:=st.rs++[[h,l]] }→Q (.int ((st.rs.length:Int)+1)) H'):za8 K C xa [.ref x,.int h,.int l] H Q E:=⟨rfl,x,F,st,h,l,rfl,hE,B,qe,q⟩
def zdO (K:PySem.W.Frag) (C:Addr):Sp:=fun vs H Q _=>vs.length=4∧∃ (a b:Addr) (s n:Int) (hs:List Int) (rs:LI),vs=[.ref a,.ref b,.int s,.int n]∧SqL K H a (hs.map V.int)∧LL K H b rs∧InB hs rs∧0≤s∧s≤100∧∀ x F H',H x=none→Same H H'→(∀ c o,H c=some o→¬F c)→ExAt C H' x F ⟨hs,rs,s,none⟩→Q (.ref x) H'
theorem zfH (T:Txt K mg t):FnOk P w K mg base CX0 3 t.f_47 t.d_47 ["_law_homes","_law_staff","_law_step","_law_turn"] (zdO K t.C_Exam):=by
 have G_20:=zdp (P:=P) (w:=w) (base:=base) T;have G_23:=zce (P:=P) (w:=w) (base:=base) T;have G_21:=zbi (P:=P) (w:=w) (base:=base) T;have G_22:=za9 (P:=P) (w:=w) (base:=base) T;refine T.F_47.ok sc_47 (fun _ _ _ _ h=>h.1) fun cdv A outer s H vs Q E hr h=>by
  refine ⟨_,(zad (zaU (i:=4) sc_47.nd rfl (Or.inl rfl) (zit T.mk_Exam G_20 (hr.mono (by decide)) (by rfl) T.mg_Exam T.b_20 .nil zaN))
   (zad (zaE (zaQ (pv 4) T.cl_Exam T.me_23 G_23 (hr.mono (by decide)) T.b_23 .nil ze1 (zaa (pv 2) pa_nil)))
   (zad (zaY (zas (za4 (K:=K) rfl hr.units0) (zap (op_mod) (pv 3) zab) zab (zaA _))
   (zae (zbK PassesOwn.never rfl (za0 (K:=K) rfl (pv 0)) (zaC (i:=5) sc_47.nd rfl (Or.inl rfl))
   (zae (zaE (zaQ (pv 4) T.cl_Exam T.me_21 G_21 (hr.mono (by decide)) T.b_21 .nil ze1 (zaa (pv 5) pa_nil)))))) pss_nil)
   (zad (zbK PassesOwn.never rfl (za0 (K:=K) rfl (pv 1)) (zaC (i:=6) sc_47.nd rfl (Or.inl rfl))
   (zae (zaE (zaQ (pv 4) T.cl_Exam T.me_22 G_22 (hr.mono (by decide)) T.b_22 .nil ze1 (zaa (zaM (zah (K:=K) rfl) (pv 6) zab (fun _ _=>rfl)) (zaa (zaM (zah (K:=K) rfl) (pv 6) zab (fun _ _=>rfl)) pa_nil))))))
   (zad (zaY (zas (za4 (K:=K) rfl hr.units0) (zap (op_mod) (pv 3) zab) zab (zaA _))
   (zae (zbK PassesOwn.never rfl (za0 (K:=K) rfl (pv 0)) (zaC (i:=5) sc_47.nd rfl (Or.inl rfl))
   (zae (zaE (zaQ (pv 4) T.cl_Exam T.me_21 G_21 (hr.mono (by decide)) T.b_21 .nil ze1 (zaa (pv 5) pa_nil)))))) pss_nil)
   (zae (zan (pv 4)))))))),?_⟩
  obtain ⟨_,a,b,s,n,hs,rs,rfl,ha,L,B,s0,s100,q⟩:=h;have B1:=B.lp;have B2:=B.lr;obtain ⟨psr,hb,hpl,hpr⟩:=id L;have Bp:∀ i,InB (hs.take i) []:=fun i=>by
   have:=(B.take 0).takeH i;rw [take_zero] at this;exact this
  walk_at "st";refine zfw ?_;walk_at "st";refine zeV fun x dx H1 fx fdx ne s1 ex=>?_;refine zfG ex fun H2 F k2 fF E2=>⟨rfl,?_⟩
  have S2:Same H H2:=fun c o e=>k2 c o (s1 c o e) (fun z=>by rw [z,fx] at e;cases e) (fun z=>by rw [z,fdx] at e;cases e);have nF:∀ c o,H c=some o→¬F c:=fun c o e z=>by
   rcases fF c z with z | z | z
   ·rw [z,fx] at e;cases e
   ·rw [z,fdx] at e;cases e
   ·rw [s1 c o e] at z;cases z
  have B0:InB ([]:List Int) []:=by have:=Bp 0;rwa [take_zero] at this
  obtain ⟨dx2,fs2,hob2,hlk2⟩:=E2.ob;walk_at "st";refine zfw ?_;walk_at "st";refine zau hob2 (hlk2 _ (by decide +kernel)) ?_;walk_at "st";refine zdM E2 B0 rfl ⟨s0,s100⟩ fun H3 F3 f3 E3=>?_;obtain ⟨nF3,S3⟩:=f3.nf S2 nF;have E3':ExAt t.C_Exam H3 x F3 ⟨hs.take 0,rs.take 0,s,none⟩:=by rw [take_zero,take_zero];exact E3
  walk_at "st";refine zbw (fun σ H'=>∃ (F:Addr→Prop) (k:Nat) (v5 v6:Option V),σ=[some (.ref a),some (.ref b),some (.int s),some (.int n),some (.ref x),v5,v6]∧Same H H'∧(∀ c o,H c=some o→¬F c)∧ExAt t.C_Exam H' x F ⟨hs.take k,rs.take 0,s,none⟩∧((n % 2=0∧k=hs.length)∨(n % 2=1∧k=0))) ?_ ?_
  ·intro nx' hnx;have S':=S3;have nF':=nF3;have E':=E3';symm;refine zb1 (fun h1=>?_) (fun h1=>?_)
   ·skip
    symm;refine zbq (S'.seq ha) ?_;refine zcJ (xs:=hs.map V.int) (fun i σ H'=>∃ (F:Addr→Prop) (v5 v6:Option V),σ=[some (.ref a),some (.ref b),some (.int s),some (.int n),some (.ref x),v5,v6]∧Same H H'∧(∀ c o,H c=some o→¬F c)∧ExAt t.C_Exam H' x F ⟨hs.take i,rs.take 0,s,none⟩) ⟨_,_,_,rfl,S',nF',E'⟩ ?_ ?_ ?_
    ·rintro i σ H4 _ ⟨F4,w5,w6,rfl,S4,n4,E4⟩;exact S4.seq ha
    ·rintro i y σ H4 hy ⟨F4,w5,w6,rfl,S4,n4,E4⟩;obtain ⟨hi,rfl⟩:=zc8 hy;obtain ⟨dx4,fs4,hob4,hlk4⟩:=E4.ob;have hh:=B.hh i hi;symm;refine zau hob4 (hlk4 _ (by decide +kernel)) ?_;symm;refine zbs E4 ((B.take 0).takeH i) rfl ⟨hh.1,hh.2,by show (hs.take i).length < 10;rw [length_take];omega⟩ fun H5 F5 f5 E5=>?_;obtain ⟨n5,S5⟩:=f5.nf S4 n4;symm;refine ⟨F5,_,_,rfl,S5,n5,?_⟩;have et:hs.take (i+1)=hs.take i++[hs.getD i 0]:=by rw [take_add_one,getElem?_eq_getElem hi,getD_eq_getElem?_getD,getElem?_eq_getElem hi];rfl
     rw [et];exact E5
    ·rintro σ H4 ⟨F4,w5,w6,rfl,S4,n4,E4⟩;rw [length_map] at E4;exact hnx _ _ ⟨F4,hs.length,_,_,rfl,S4,n4,E4,.inl ⟨h1,rfl⟩⟩
   ·symm;exact hnx _ _ ⟨F3,0,_,_,rfl,S3,nF3,E3',.inr ⟨by omega,rfl⟩⟩
  rintro σ H' ⟨F',k,v5,v6,rfl,S',nF',E',hk⟩;walk_at "st";refine zbw (fun σ H'=>∃ (F:Addr→Prop) (k:Nat) (v5 v6:Option V),σ=[some (.ref a),some (.ref b),some (.int s),some (.int n),some (.ref x),v5,v6]∧Same H H'∧(∀ c o,H c=some o→¬F c)∧ExAt t.C_Exam H' x F ⟨hs.take k,rs.take rs.length,s,none⟩∧((n % 2=0∧k=hs.length)∨(n % 2=1∧k=0))) ?_ ?_
  ·intro nx' hnx;symm;refine zbq (S'.seq hb) ?_;refine zcJ (xs:=psr.map V.ref) (fun i σ H'=>∃ (F:Addr→Prop) (v5 v6:Option V),σ=[some (.ref a),some (.ref b),some (.int s),some (.int n),some (.ref x),v5,v6]∧Same H H'∧(∀ c o,H c=some o→¬F c)∧ExAt t.C_Exam H' x F ⟨hs.take k,rs.take i,s,none⟩) ⟨_,_,_,rfl,S',nF',E'⟩ ?_ ?_ ?_
   ·rintro i σ H4 _ ⟨F4,w5,w6,rfl,S4,n4,E4⟩;exact S4.seq hb
   ·rintro i y σ H4 hy ⟨F4,w5,w6,rfl,S4,n4,E4⟩;obtain ⟨hi,rfl⟩:=zhx hy;have hi':i < rs.length:=by omega
    obtain ⟨dx4,fs4,hob4,hlk4⟩:=E4.ob;have hrow:=S4 _ _ (hpr i hi');have h2:=B.r2 i hi';have hh:=B.rh i hi';have hl:=B.rl i hi';have erow:rs.getD i []=[(rs.getD i []).getD 0 0,(rs.getD i []).getD 1 0]:=len2 h2;symm;refine zau hob4 (hlk4 _ (by decide +kernel)) ?_;symm;refine zbM (h:=(rs.getD i []).getD 0 0) (l:=(rs.getD i []).getD 1 0) E4 ((B.take i).takeH k) rfl ⟨hh.1,hh.2,hl.1,hl.2,by show (rs.take i).length < 8;rw [length_take];omega⟩ fun H5 F5 f5 E5=>?_;obtain ⟨n5,S5⟩:=f5.nf S4 n4;symm;refine ⟨F5,_,_,rfl,S5,n5,?_⟩;have et:rs.take (i+1)=rs.take i++[rs.getD i []]:=by rw [take_add_one,getElem?_eq_getElem hi',getD_eq_getElem?_getD,getElem?_eq_getElem hi'];rfl
    rw [et,erow];exact E5
   ·rintro σ H4 ⟨F4,w5,w6,rfl,S4,n4,E4⟩;rw [length_map,hpl] at E4;exact hnx _ _ ⟨F4,k,_,_,rfl,S4,n4,E4,hk⟩
  rintro σ H' ⟨F',k,v5,v6,rfl,S',nF',E',hk⟩;walk_at "st";refine zbw (fun σ H'=>∃ (F:Addr→Prop) (v5 v6:Option V),σ=[some (.ref a),some (.ref b),some (.int s),some (.int n),some (.ref x),v5,v6]∧Same H H'∧(∀ c o,H c=some o→¬F c)∧ExAt t.C_Exam H' x F ⟨hs,rs,s,none⟩) ?_ ?_
  ·intro nx' hnx;symm;refine zb1 (fun h1=>?_) (fun h1=>?_)
   ·have hk0:k=0:=by omega
    subst hk0;symm;refine zbq (S'.seq ha) ?_;refine zcJ (xs:=hs.map V.int) (fun i σ H'=>∃ (F:Addr→Prop) (v5 v6:Option V),σ=[some (.ref a),some (.ref b),some (.int s),some (.int n),some (.ref x),v5,v6]∧Same H H'∧(∀ c o,H c=some o→¬F c)∧ExAt t.C_Exam H' x F ⟨hs.take i,rs.take rs.length,s,none⟩) ⟨_,_,_,rfl,S',nF',E'⟩ ?_ ?_ ?_
    ·rintro i σ H4 _ ⟨F4,w5,w6,rfl,S4,n4,E4⟩;exact S4.seq ha
    ·rintro i y σ H4 hy ⟨F4,w5,w6,rfl,S4,n4,E4⟩;obtain ⟨hi,rfl⟩:=zc8 hy;obtain ⟨dx4,fs4,hob4,hlk4⟩:=E4.ob;have hh:=B.hh i hi;symm;refine zau hob4 (hlk4 _ (by decide +kernel)) ?_;symm;refine zbs E4 ((B.take rs.length).takeH i) rfl ⟨hh.1,hh.2,by show (hs.take i).length < 10;rw [length_take];omega⟩ fun H5 F5 f5 E5=>?_;obtain ⟨n5,S5⟩:=f5.nf S4 n4;symm;refine ⟨F5,_,_,rfl,S5,n5,?_⟩;have et:hs.take (i+1)=hs.take i++[hs.getD i 0]:=by rw [take_add_one,getElem?_eq_getElem hi,getD_eq_getElem?_getD,getElem?_eq_getElem hi];rfl
     rw [et];exact E5
    ·rintro σ H4 ⟨F4,w5,w6,rfl,S4,n4,E4⟩;rw [length_map] at E4;rw [take_length,take_length] at E4;exact hnx _ _ ⟨F4,_,_,rfl,S4,n4,E4⟩
   ·have hk0:k=hs.length:=by omega
    subst hk0;rw [take_length,take_length] at E';symm;exact hnx _ _ ⟨F',_,_,rfl,S',nF',E'⟩
  rintro σ H' ⟨F',v5,v6,rfl,S',nF',E'⟩;symm;exact q x F' H' fx S' nF' E'
theorem zgO {C:Addr} {H:Hp} {a b:Addr} {s n:Int} {hs:List Int} {rs:LI} {Q:VK} {E:XK} (h1:SqL K H a (hs.map V.int)) (h2:LL K H b rs) (B:InB hs rs) (s0:0≤s) (s1:s≤100) (q:∀ x F H',H x=none→Same H H'→(∀ c o,H c=some o→¬F c)→ExAt C H' x F ⟨hs,rs,s,none⟩→Q (.ref x) H'):zdO K C [.ref a,.ref b,.int s,.int n] H Q E:=⟨rfl,a,b,s,n,hs,rs,rfl,h1,h2,B,s0,s1,q⟩
def zdi (K:PySem.W.Frag):Sp:=fun vs H Q _=>vs.length=1∧∃ x:V,vs=[x]∧((∃ i:Int,x=.int i∧Q (.bl true) H))
theorem zfb (T:Txt K mg t):FnOk P w K mg base CX0 1 t.f_44 t.d_44 ["_law_found"] (zdi K):=by
 refine T.F_44.ok sc_44 (fun _ _ _ _ h=>h.1) fun cdv A outer s H vs Q E hr h=>by
  refine ⟨_,(zae (zan (zfW (zaj (zbe (K:=K) rfl) (by rfl) T.z_isinstance (by rfl) (zaa (pv 0) (zaa (zdw (v:=.ty "int") (u:=.type "int") (by rfl) T.z_int (by rfl) rfl) pa_nil))) (zeB (zjb (zaj (zbe (K:=K) rfl) (by rfl) T.z_isinstance (by rfl) (zaa (pv 0) (zaa (zdw (v:=.ty "bool") (u:=.type "bool") (by rfl) T.z_bool (by rfl) rfl) pa_nil)))))))),?_⟩;obtain ⟨_,x,rfl,i,rfl,q⟩:=h;symm;refine iteT ?_;symm;exact q
theorem zdP {H:Hp} {i:Int} {Q:VK} {E:XK} (q:Q (.bl true) H):zdi K [.int i] H Q E:=⟨rfl,_,rfl,i,rfl,q⟩
local macro_rules | `(tactic| walk_at "rd1")=>`(tactic| (with_reducible refine zdP ?_))
def zeg (K:PySem.W.Frag):Sp:=fun vs H Q _=>vs.length=2∧∃ (a b:Addr) (xs ys:List Int),vs=[.ref a,.ref b]∧H a=some (.lst (xs.map V.int))∧SqL K H b (ys.map V.int)∧ys.length≤1000000∧Q (.bl (decide (xs=ys))) H
theorem zgP (T:Txt K mg t):FnOk P w K mg base CX0 2 t.f_46 t.d_46 ["_law_found","_law_due"] (zeg K):=by
 have G_44:=zfb (P:=P) (w:=w) (base:=base) T;refine T.F_46.ok sc_46 (fun _ _ _ _ h=>h.1) fun cdv A outer s H vs Q E hr h=>by
  refine ⟨_,(zad (zaY (zfo (zdg (zaJ (K:=K) rfl (zaj (zbe (K:=K) rfl) (by rfl) T.z_isinstance (by rfl) (zaa (pv 0) (zaa (zdw (v:=.ty "list") (u:=.type "list") (by rfl) T.z_list (by rfl) rfl) pa_nil))) (fun _=>rfl))) (zdx (zas (zhV (K:=K) rfl hr.units0) (zaj (zaq (K:=K) rfl) (by rfl) T.z_len (by rfl) (zaa (pv 0) pa_nil)) (zaj (zaq (K:=K) rfl) (by rfl) T.z_len (by rfl) (zaa (pv 1) pa_nil)) (zaA _)))).pt
   (zae (zan zb4)) pss_nil)
   (zad (zbK PassesOwn.never rfl (zbJ (by rfl) T.z_range (zaa (zaj (zaq (K:=K) rfl) (by rfl) T.z_len (by rfl) (zaa (pv 1) pa_nil)) pa_nil)) (zaC (i:=2) sc_46.nd rfl (Or.inl rfl))
   (zae (zaY (zfo (zdg (zaJ (K:=K) rfl (zar G_44 (hr.mono (by decide)) (by rfl) T.m_44 T.F_44.kp T.b_44 .nil zaN (zaa (zaM (zah (K:=K) rfl) (pv 0) (pv 2) (fun _ _=>rfl)) pa_nil)) (fun _=>rfl))) (zdx (zas (zhV (K:=K) rfl hr.units0) (zaM (zah (K:=K) rfl) (pv 0) (pv 2) (fun _ _=>rfl)) (zaM (zah (K:=K) rfl) (pv 1) (pv 2) (fun _ _=>rfl)) (zaA _)))).pt
   (zae (zan zb4)) pss_nil)))
   (zae (zan zb4)))),?_⟩
  obtain ⟨_,a,b,xs,ys,rfl,ha,hb,hy,q⟩:=h;symm;refine iteF ?_;symm;refine zf4 (fun h0=>?_) (fun h0=>?_)
  ·rw [decide_eq_false (by rintro rfl;exact h0 rfl)] at q;symm;exact q
  ·have hlen:xs.length=ys.length:=by omega
   symm;refine zdC (by omega) (by omega) ?_;refine zdD (fun i σ H1=>∃ v,σ=[some (.ref a),some (.ref b),v]∧H1=H∧∀ j,j < i→xs.getD j 0=ys.getD j 0) ⟨none,rfl,rfl,fun j hj=>absurd hj (by omega)⟩ ?_ ?_
   ·rintro i σ H1 hi ⟨v,rfl,rfl,hall⟩;symm;refine iteF ?_;symm;refine zf4 (fun h1=>?_) (fun h1=>?_)
    ·rw [decide_eq_false (by rintro rfl;exact h1 rfl)] at q;symm;exact q
    ·symm;refine ⟨_,rfl,rfl,fun j hj=>?_⟩
     by_cases e:j=i
     ·subst e;have e2:(0+(j:Int)).toNat=j:=by omega
      rw [e2] at h1;exact h1
     ·exact hall j (by omega)
   ·rintro σ H1 ⟨v,rfl,rfl,hall⟩;rw [decide_eq_true (ziB hlen fun j hj=>hall j (by omega))] at q;symm;exact q
theorem zic {H:Hp} {a b:Addr} {xs ys:List Int} {Q:VK} {E:XK} (h:H a=some (.lst (xs.map V.int))) (h':SqL K H b (ys.map V.int)) (hl:ys.length≤1000000) (q:Q (.bl (decide (xs=ys))) H):zeg K [.ref a,.ref b] H Q E:=⟨rfl,a,b,xs,ys,rfl,h,h',hl,q⟩
def zaT (K:PySem.W.Frag) (C:Addr) (xa:XAd):Sp:=fun vs H Q E=>vs.length=1∧∃ (x:Addr) (F:Addr→Prop) (st:ExS),vs=[.ref x]∧ExAt C H x F st∧(st.dl.isSome=true→Q .non H)∧(st.dl=none→E (.ref xa.OutOfTime) none H)
theorem zbz (T:Txt K mg t):FnOk P w K mg base (CX1 P w) 1 t.f_36 t.d_36 ["self"] (zaT K t.C_Exam t.xa):=by
 refine T.F_36.okX sc_36 (fun _ _ _ _ h=>h.1) fun cdv A outer s H vs Q E hr h=>by
  refine ⟨_,(zae (zaY (zdg (zaJ (K:=K) rfl (zay (K:=K) rfl (pv 0)) (fun _=>rfl)))
   (zae (zcx (by rfl) T.mx_OutOfTime T.xc_OutOfTime)) pss_nil)),?_⟩
  obtain ⟨_,x,F,st,rfl,E0,q1,q2⟩:=h;walk_at "hd";symm;refine zkG (fun hd=>?_) (fun hd=>?_)
  ·symm;exact q2 (zew (by rw [hd];decide))
  ·symm;exact q1 hd
theorem zcL {K:PySem.W.Frag} {xa:XAd} {C x:Addr} {H:Hp} {F:Addr→Prop} {st:ExS} {Q:VK} {E:XK} {σ:L2.St} (h:ExAt C H x F st) (q1:st.dl.isSome=true→Q .non H) (q2:st.dl=none→E (.ref xa.OutOfTime) none H):zbH C "refuse_ahead_of_dealing" (zaT K C xa) E tNil σ (.ref x) H Q:=by
 obtain ⟨dx,fs,e,l⟩:=h.ob;exact zau e (l _ (by decide +kernel)) (zeN ⟨rfl,x,F,st,rfl,h,q1,q2⟩)
def zbj (K:PySem.W.Frag) (C:Addr):Sp:=fun vs H Q _=>vs.length=2∧∃ (x:Addr) (F:Addr→Prop) (st:ExS) (k:Int),vs=[.ref x,.int k]∧ExAt C H x F st∧InB st.hs st.rs∧1≤k∧k≤st.nm.length∧(∀ p H',H p=none→Same H H'→H' p=some (.lst ((zbC st.nm st.en (k-1).toNat).map V.int))→Q (.ref p) H')
theorem zbN (T:Txt K mg t):FnOk P w K mg base CX0 1 t.f_38 t.d_38 ["self","paper"] (zbj K t.C_Exam):=by
 refine T.F_38.ok sc_38 (fun _ _ _ _ h=>h.1) fun cdv A outer s H vs Q E hr h=>by
  refine ⟨_,(zad (zaU (i:=2) sc_38.nd rfl (Or.inr rfl) (zaM (zah (K:=K) rfl) (zay (K:=K) rfl (pv 0)) (zap (op_sub) (pv 1) zab) (fun _ _=>rfl)))
   (zae (zan (zbD (zaD (sc:=zac s_38) (XN:=["self","paper","entered"]) (N:=["reader","entered"]) (own:=1) (js:=[2]) rfl rfl (by decide +kernel)) rfl (za0 (K:=K) rfl (zaM (zah (K:=K) rfl) (zay (K:=K) rfl (pv 0)) (zap (op_sub) (pv 1) zab) (fun _ _=>rfl))) (fun _ _ _ _ _=>(zaC (i:=0) (show List.Nodup [(Str.ofString "reader"),(Str.ofString "entered")] by decide +kernel) rfl (Or.inl rfl))) (fun _ _ _ _ _=>(zft (zja (zhp (zdW hr) (pv 0) (pv 1))))) (fun _ _ _ _ _=>(pv 0)))))),?_⟩
  obtain ⟨_,x,F,st,k,rfl,E0,BB,k1,k2,q⟩:=h;have B1:=BB.lp;have B2:=BB.lr;have E0':=E0;walk_at "hd";have lq:=I.lq;have ld:=I.ld;have l10:=I.wf.n10 BB;have hk:(k-1).toNat < st.nm.length:=by omega
  have hdic:=I.rd _ hk;have hrow:=I.rq _ hk;have hvk:=I.vk _ hk;have hlr:=(I.wf.row _ hk).len;symm;refine zbq (SqL.of hrow) ?_;refine zhy (SqL.of hrow) (by rw [length_map];omega) (fun v=>match v with | .int r=>(za7 st.en (k-1).toNat r).isNone | _=>false) (fun i H' Q' hi s q'=>?_) fun p H2 f s e2=>?_
  ·rw [length_map] at hi;have ex:((st.nm.getD (k-1).toNat []).map V.int).getD i .non=.int ((st.nm.getD (k-1).toNat []).getD i 0):=zeZ hi;rw [ex] at q' ⊢;symm;refine zhR (s _ _ hdic) ?_;rw [hvk];have eb:(!((za7 st.en (k-1).toNat ((st.nm.getD (k-1).toNat []).getD i 0)).map V.int).isSome)=(za7 st.en (k-1).toNat ((st.nm.getD (k-1).toNat []).getD i 0)).isNone:=by
    cases za7 st.en (k-1).toNat ((st.nm.getD (k-1).toNat []).getD i 0) <;> rfl
   symm;rw [eb];exact q'
  ·have ew:((st.nm.getD (k-1).toNat []).map V.int).filter (fun v=>match v with | .int r=>(za7 st.en (k-1).toNat r).isNone | _=>false)=(zbC st.nm st.en (k-1).toNat).map V.int:=by
    unfold zbC;rw [filter_map];rfl
   rw [ew] at e2;exact q p H2 f s e2
theorem zcY {K:PySem.W.Frag} {C x:Addr} {H:Hp} {F:Addr→Prop} {st:ExS} {k:Int} {Q:VK} {E:XK} (h:ExAt C H x F st) (B:InB st.hs st.rs) (k1:1≤k) (k2:k≤st.nm.length) (q:(∀ p H',H p=none→Same H H'→H' p=some (.lst ((zbC st.nm st.en (k-1).toNat).map V.int))→Q (.ref p) H')):zbj K C [.ref x,.int k] H Q E:=⟨rfl,x,F,st,k,rfl,h,B,k1,k2,q⟩
theorem zbV {K:PySem.W.Frag} {C x:Addr} {H:Hp} {F:Addr→Prop} {st:ExS} {k:Int} {Q:VK} {E:XK} {σ:L2.St} {tk:TE} (h:ExAt C H x F st) (B:InB st.hs st.rs) (k1:1≤k) (k2:k≤st.nm.length) (hk:∀ Q:VK,Q (.int k) H→tk σ H Q) (q:(∀ p H',H p=none→Same H H'→H' p=some (.lst ((zbC st.nm st.en (k-1).toNat).map V.int))→Q (.ref p) H')):zbH C "due_readers" (zbj K C) E (zfq tk tNil) σ (.ref x) H Q:=by
 obtain ⟨dx,fs,e,l⟩:=h.ob;exact zau e (l _ (by decide +kernel)) (zeO (hk _ (zeN (zcY h B k1 k2  q))))
def zbu (K:PySem.W.Frag) (C:Addr) (xa:XAd):Sp:=fun vs H Q E=>vs.length=3∧∃ (x:Addr) (F:Addr→Prop) (st:ExS) (k r:Int),vs=[.ref x,.int k,.int r]∧ExAt C H x F st∧InB st.hs st.rs∧1≤k∧k≤st.nm.length∧∀ H',Same H H'→(r∈zbC st.nm st.en (k-1).toNat→Q .non H')∧(r∉zbC st.nm st.en (k-1).toNat→E (.ref xa.NotDue) none H')
theorem zch (T:Txt K mg t):FnOk P w K mg base (CX1 P w) 2 t.f_37 t.d_37 ["self","paper","reader"] (zbu K t.C_Exam t.xa):=by
 have G_38:=zbN (P:=P) (w:=w) (base:=base) T;refine T.F_37.okX sc_37 (fun _ _ _ _ h=>h.1) fun cdv A outer s H vs Q E hr h=>by
  refine ⟨_,(zae (zaY (zas (ze0 (K:=K) rfl (zdW hr)) (pv 2) (zaQ (pv 0) T.cl_Exam T.me_38 G_38 (hr.mono (by decide)) T.b_38 .nil zaN (zaa (pv 1) pa_nil)) (by with_unfolding_all rfl))
   (zae (zcx (by rfl) T.mx_NotDue T.xc_NotDue)) pss_nil)),?_⟩
  obtain ⟨_,x,F,st,k,r,rfl,E0,BB,k1,k2,q⟩:=h;have E0':=E0;walk_at "hd";symm;refine zbV E0' BB k1 k2 (fun Q z=>zeM (i:=1) rfl z) fun p1 H1 f1 s1 e1=>?_;symm;refine zf4 (fun hn=>?_) (fun hn=>?_)
  ·symm;exact (q H1 s1).2 hn
  ·symm;exact (q H1 s1).1 hn
theorem zcq {K:PySem.W.Frag} {xa:XAd} {C x:Addr} {H:Hp} {F:Addr→Prop} {st:ExS} {k r:Int} {Q:VK} {E:XK} (h:ExAt C H x F st) (B:InB st.hs st.rs) (k1:1≤k) (k2:k≤st.nm.length) (q:∀ H',Same H H'→(r∈zbC st.nm st.en (k-1).toNat→Q .non H')∧(r∉zbC st.nm st.en (k-1).toNat→E (.ref xa.NotDue) none H')):zbu K C xa [.ref x,.int k,.int r] H Q E:=⟨rfl,x,F,st,k,r,rfl,h,B,k1,k2,q⟩
def zbt (K:PySem.W.Frag) (C:Addr):Sp:=fun vs H Q _=>vs.length=2∧∃ (x:Addr) (F:Addr→Prop) (st:ExS) (k:Int),vs=[.ref x,.int k]∧ExAt C H x F st∧InB st.hs st.rs∧1≤k∧k≤st.nm.length∧zbC st.nm st.en (k-1).toNat=[]∧(∀ p H',H p=none→Same H H'→H' p=some (.lst ((zdL st.nm st.en (k-1).toNat).map V.int))→Q (.ref p) H')
theorem zcZ (T:Txt K mg t):FnOk P w K mg base CX0 1 t.f_39 t.d_39 ["self","paper"] (zbt K t.C_Exam):=by
 refine T.F_39.ok sc_39 (fun _ _ _ _ h=>h.1) fun cdv A outer s H vs Q E hr h=>by
  refine ⟨_,(zad (zaU (i:=2) sc_39.nd rfl (Or.inr rfl) (zaM (zah (K:=K) rfl) (zay (K:=K) rfl (pv 0)) (zap (op_sub) (pv 1) zab) (fun _ _=>rfl)))
   (zae (zan (zbD (zaD (sc:=zac s_39) (XN:=["self","paper","entered"]) (N:=["reader","entered"]) (own:=1) (js:=[2]) rfl rfl (by decide +kernel)) rfl (za0 (K:=K) rfl (zaM (zah (K:=K) rfl) (zay (K:=K) rfl (pv 0)) (zap (op_sub) (pv 1) zab) (fun _ _=>rfl))) (fun _ _ _ _ _=>(zaC (i:=0) (show List.Nodup [(Str.ofString "reader"),(Str.ofString "entered")] by decide +kernel) rfl (Or.inl rfl))) (fun _ _ _ _ _=>zb0) (fun _ _ _ _ _=>(zjK (zdW hr) (pv 1) (pv 0) (fun _ _=>rfl))))))),?_⟩
  obtain ⟨_,x,F,st,k,rfl,E0,BB,k1,k2,hw,q⟩:=h;have B1:=BB.lp;have B2:=BB.lr;have E0':=E0;walk_at "hd";have lq:=I.lq;have ld:=I.ld;have l10:=I.wf.n10 BB;have hk:(k-1).toNat < st.nm.length:=by omega
  have hdic:=I.rd _ hk;have hrow:=I.rq _ hk;have hvk:=I.vk _ hk;have hlr:=(I.wf.row _ hk).len;symm;refine zbq (SqL.of hrow) ?_;refine zdE (zbL (SqL.of hrow)) (by rw [length_map];omega) (fun i=>(za7 st.en (k-1).toNat ((st.nm.getD (k-1).toNat []).getD i 0)).getD 0) (fun i H' Q' hi s q'=>?_) fun p H2 f s e2=>?_
  ·rw [length_map] at hi;have ex:((st.nm.getD (k-1).toNat []).map V.int).getD i .non=.int ((st.nm.getD (k-1).toNat []).getD i 0):=zeZ hi;rw [ex];obtain ⟨p,hp⟩:=zgj hw (getD_mem (d:=0) hi);rw [hp] at q';symm;refine zhS (s _ _ hdic) (by rw [hvk,hp];rfl) ?_;exact q'
  ·have ew:(List.range ((st.nm.getD (k-1).toNat []).map V.int).length).map (fun i=>(za7 st.en (k-1).toNat ((st.nm.getD (k-1).toNat []).getD i 0)).getD 0)=zdL st.nm st.en (k-1).toNat:=by
    unfold zdL;rw [length_map]
    conv=>rhs;rw [← zdZ (st.nm.getD (k-1).toNat []) 0]
    rw [map_map];rfl
   rw [ew] at e2;exact q p H2 f s e2
theorem zda {K:PySem.W.Frag} {C x:Addr} {H:Hp} {F:Addr→Prop} {st:ExS} {k:Int} {Q:VK} {E:XK} (h:ExAt C H x F st) (B:InB st.hs st.rs) (k1:1≤k) (k2:k≤st.nm.length) (hw:zbC st.nm st.en (k-1).toNat=[]) (q:(∀ p H',H p=none→Same H H'→H' p=some (.lst ((zdL st.nm st.en (k-1).toNat).map V.int))→Q (.ref p) H')):zbt K C [.ref x,.int k] H Q E:=⟨rfl,x,F,st,k,rfl,h,B,k1,k2,hw,q⟩
theorem zdb {K:PySem.W.Frag} {C x:Addr} {H:Hp} {F:Addr→Prop} {st:ExS} {k:Int} {Q:VK} {E:XK} {σ:L2.St} {tk:TE} (h:ExAt C H x F st) (B:InB st.hs st.rs) (k1:1≤k) (k2:k≤st.nm.length) (hw:zbC st.nm st.en (k-1).toNat=[]) (hk:∀ Q:VK,Q (.int k) H→tk σ H Q) (q:(∀ p H',H p=none→Same H H'→H' p=some (.lst ((zdL st.nm st.en (k-1).toNat).map V.int))→Q (.ref p) H')):zbH C "points_for" (zbt K C) E (zfq tk tNil) σ (.ref x) H Q:=by
 obtain ⟨dx,fs,e,l⟩:=h.ob;exact zau e (l _ (by decide +kernel)) (zeO (hk _ (zeN (zda h B k1 k2 hw q))))
def zgm (K:PySem.W.Frag):Sp:=fun vs H Q _=>vs.length=3∧∃ x y s:Int,vs=[.int x,.int y,.int s]∧Q (.bl (zeb x y s)) H
theorem zi5 (T:Txt K mg t):FnOk P w K mg base CX0 1 t.f_15 t.d_15 ["one","other","step"] (zgm K):=by
 refine T.F_15.ok sc_15 (fun _ _ _ _ h=>h.1) fun cdv A outer s H vs Q E hr h=>by
  refine ⟨_,(zae (zan (zbZ (op_le) (zaj (call_abs) (by rfl) T.z_abs (by rfl) (zaa (zap (op_sub) (pv 0) (pv 1)) pa_nil)) (pv 2) (zaA _)))),?_⟩;obtain ⟨_,x,y,s,rfl,q⟩:=h;symm;refine ⟨_,rfl,?_⟩;symm;have e:zeb x y s=decide ((if x-y < 0 then -(x-y) else x-y)≤s):=by
   unfold zeb;rw [decide_eq_decide];split <;> constructor <;> intro h <;> first | omega | (constructor <;> omega)
  rw [e] at q;exact q
theorem zkd {H:Hp} {x y s:Int} {Q:VK} {E:XK} (q:Q (.bl (zeb x y s)) H):zgm K [.int x,.int y,.int s] H Q E:=⟨rfl,x,y,s,rfl,q⟩
def zbk (K:PySem.W.Frag) (C:Addr):Sp:=fun vs H Q _=>vs.length=2∧∃ (x:Addr) (F:Addr→Prop) (st:ExS) (k:Int),vs=[.ref x,.int k]∧ExAt C H x F st∧InB st.hs st.rs∧1≤k∧k≤st.nm.length∧(∀ H',Same H H'→Q (.bl (zcU st (k-1).toNat)) H')
theorem zcM (T:Txt K mg t):FnOk P w K mg base CX0 2 t.f_42 t.d_42 ["self","paper"] (zbk K t.C_Exam):=by
 have G_38:=zbN (P:=P) (w:=w) (base:=base) T;have G_39:=zcZ (P:=P) (w:=w) (base:=base) T;have G_15:=zi5 (P:=P) (w:=w) (base:=base) T;refine T.F_42.ok sc_42 (fun _ _ _ _ h=>h.1) fun cdv A outer s H vs Q E hr h=>by
  refine ⟨_,(zad (zaY (zfo (zas (op_gt) (zaj (zaq (K:=K) rfl) (by rfl) T.z_len (by rfl) (zaa (zaM (zah (K:=K) rfl) (zay (K:=K) rfl (pv 0)) (zap (op_sub) (pv 1) zab) (fun _ _=>rfl)) pa_nil)) zab (zaA _)) (zdx (zas (op_gt) (zaj (zaq (K:=K) rfl) (by rfl) T.z_len (by rfl) (zaa (zaQ (pv 0) T.cl_Exam T.me_38 G_38 (hr.mono (by decide)) T.b_38 .nil zaN (zaa (pv 1) pa_nil)) pa_nil)) zab (zaA _)))).pt
   (zae (zan zb4)) pss_nil)
   (zad (zaU (i:=2) sc_42.nd rfl (Or.inl rfl) (zaQ (pv 0) T.cl_Exam T.me_39 G_39 (hr.mono (by decide)) T.b_39 .nil zaN (zaa (pv 1) pa_nil)))
   (zae (zan (zjb (zar G_15 (hr.mono (by decide)) (by rfl) T.m_15 T.F_15.kp T.b_15 .nil zaN (zaa (zaM (zah (K:=K) rfl) (pv 2) zab (fun _ _=>rfl)) (zaa (zaM (zah (K:=K) rfl) (pv 2) zab (fun _ _=>rfl)) (zaa (zay (K:=K) rfl (pv 0)) pa_nil))))))))),?_⟩
  obtain ⟨_,x,F,st,k,rfl,E0,BB,k1,k2,q⟩:=h;have B1:=BB.lp;have B2:=BB.lr;have E0':=E0;walk_at "hd";have lq:=I.lq;have ld:=I.ld;have l10:=I.wf.n10 BB;have hk:(k-1).toNat < st.nm.length:=by omega
  have hdic:=I.rd _ hk;have hrow:=I.rq _ hk;have hvk:=I.vk _ hk;have hlr:=(I.wf.row _ hk).len;have hpl:=zj6 st.nm st.en (k-1).toNat;symm;refine zb1 (fun h0=>?_) (fun h0=>?_)
  ·refine iteT ?_;symm;have hn:zcU st (k-1).toNat=false:=by unfold zcU;rw [decide_eq_false (by omega)];rfl
   rw [hn] at q;exact q H (Same.refl H)
  have hl2:(st.nm.getD (k-1).toNat []).length=2:=by omega
  symm;refine zbV E0' BB k1 k2 (fun Q z=>zeM (i:=1) rfl z) fun p1 H1 f1 s1 e1=>?_;symm;refine zb1 (fun h1=>?_) (fun h1=>?_)
  ·symm;have hn:zcU st (k-1).toNat=false:=by
    unfold zcU;rw [decide_eq_false (show ¬zbC st.nm st.en (k-1).toNat=[] from fun z=>by rw [z] at h1;exact absurd h1 (by simp)),Bool.and_false];rfl
   rw [hn] at q;exact q H1 s1
  have hw:zbC st.nm st.en (k-1).toNat=[]:=List.eq_nil_of_length_eq_zero (by omega);have E1:=E0'.same s1;symm;refine zdb E1 BB k1 k2 hw (fun Q z=>zeM (i:=1) rfl z) fun p2 H2 f2 s2 e2=>?_;have hob:=s2 _ _ (s1 _ _ hob);symm;refine zkd ?_;symm;have hn:zcU st (k-1).toNat = !zeb ((zdL st.nm st.en (k-1).toNat).getD 0 0) ((zdL st.nm st.en (k-1).toNat).getD 1 0) st.step:=by unfold zcU;rw [decide_eq_true hl2,decide_eq_true hw];rfl
  rw [hn] at q;exact q H2 (s1.trans s2)
theorem zc0 {K:PySem.W.Frag} {C x:Addr} {H:Hp} {F:Addr→Prop} {st:ExS} {k:Int} {Q:VK} {E:XK} (h:ExAt C H x F st) (B:InB st.hs st.rs) (k1:1≤k) (k2:k≤st.nm.length) (q:(∀ H',Same H H'→Q (.bl (zcU st (k-1).toNat)) H')):zbk K C [.ref x,.int k] H Q E:=⟨rfl,x,F,st,k,rfl,h,B,k1,k2,q⟩
theorem zc1 {K:PySem.W.Frag} {C x:Addr} {H:Hp} {F:Addr→Prop} {st:ExS} {k:Int} {Q:VK} {E:XK} {σ:L2.St} {tk:TE} (h:ExAt C H x F st) (B:InB st.hs st.rs) (k1:1≤k) (k2:k≤st.nm.length) (hk:∀ Q:VK,Q (.int k) H→tk σ H Q) (q:(∀ H',Same H H'→Q (.bl (zcU st (k-1).toNat)) H')):zbH C "needs_third" (zbk K C) E (zfq tk tNil) σ (.ref x) H Q:=by
 obtain ⟨dx,fs,e,l⟩:=h.ob;exact zau e (l _ (by decide +kernel)) (zeO (hk _ (zeN (zc0 h B k1 k2  q))))
def zdQ (K:PySem.W.Frag):Sp:=fun vs H Q _=>vs.length=4∧∃ (a b:Addr) (k j:Int) (hs:List Int) (rs:LI),vs=[.ref a,.ref b,.int k,.int j]∧SqL K H a (hs.map V.int)∧LL K H b rs∧1≤k∧k≤hs.length∧1≤j∧j≤rs.length∧(∀ i,i < rs.length→(rs.getD i []).length=2) ∧
 Q (.bl (!decide ((rs.getD (j-1).toNat []).getD 0 0=hs.getD (k-1).toNat 0))) H
theorem zfI (T:Txt K mg t):FnOk P w K mg base CX0 1 t.f_1 t.d_1 ["papers","readers","paper","reader"] (zdQ K):=by
 refine T.F_1.ok sc_1 (fun _ _ _ _ h=>h.1) fun cdv A outer s H vs Q E hr h=>by
  refine ⟨_,(zad (zaU (i:=4) sc_1.nd rfl (Or.inl rfl) (zaM (zah (K:=K) rfl) (zaM (zah (K:=K) rfl) (pv 1) (zap (op_sub) (pv 3) zab) (fun _ _=>rfl)) zab (fun _ _=>rfl)))
   (zae (zan (zbZ (zhV (K:=K) rfl hr.units0) (pv 4) (zaM (zah (K:=K) rfl) (pv 0) (zap (op_sub) (pv 2) zab) (fun _ _=>rfl)) (zaA _))))),?_⟩
  obtain ⟨_,a,b,k,j,hs,rs,rfl,ha,⟨ps,hb,hl,hr⟩,k1,k2,j1,j2,h2,q⟩:=h;have hj:(j-1).toNat < rs.length:=by omega
  have hr':=hr _ hj;have h2':=h2 _ hj;symm;exact q
theorem zgQ {H:Hp} {a b:Addr} {k j:Int} {hs:List Int} {rs:LI} {Q:VK} {E:XK} (h1:SqL K H a (hs.map V.int)) (h2:LL K H b rs) (k1:1≤k) (k2:k≤hs.length) (j1:1≤j) (j2:j≤rs.length) (h3:∀ i,i < rs.length→(rs.getD i []).length=2)
  (q:Q (.bl (!decide ((rs.getD (j-1).toNat []).getD 0 0=hs.getD (k-1).toNat 0))) H):zdQ K [.ref a,.ref b,.int k,.int j] H Q E:=⟨rfl,a,b,k,j,hs,rs,rfl,h1,h2,k1,k2,j1,j2,h3,q⟩
def mayB (hs:List Int) (rs:LI) (k:Int) (i:Nat):Bool:=!decide ((rs.getD i []).getD 0 0=hs.getD (k-1).toNat 0)
def zaf (hs:List Int) (rs:LI) (k:Int):List Int:=((List.range rs.length).filter (mayB hs rs k)).map fun i:Nat=>1+(i:Int)
def zcF (K:PySem.W.Frag):Sp:=fun vs H Q _=>vs.length=3∧∃ (a b:Addr) (k:Int) (hs:List Int) (rs:LI),vs=[.ref a,.ref b,.int k]∧SqL K H a (hs.map V.int)∧LL K H b rs∧1≤k∧k≤hs.length∧rs.length≤1000∧(∀ i,i < rs.length→(rs.getD i []).length=2) ∧
 ∀ p H2,H p=none→Same H H2→H2 p=some (.lst ((zaf hs rs k).map V.int))→Q (.ref p) H2
theorem zb3 (T:Txt K mg t):FnOk P w K mg base CX0 2 t.f_2 t.d_2 ["papers","readers","paper"] (zcF K):=by
 have G_1:=zfI (P:=P) (w:=w) (base:=base) T;refine T.F_2.ok sc_2 (fun _ _ _ _ h=>h.1) fun cdv A outer s H vs Q E hr h=>by
  refine ⟨_,(zae (zan (zbD (zaD (sc:=zac s_2) (XN:=["papers","readers","paper"]) (N:=["reader","papers","readers","paper"]) (own:=1) (js:=[0,1,2]) rfl rfl (by decide +kernel)) rfl (zcP (by rfl) T.z_range (zaa zab (zaa (zap (op_addG) (zaj (zaq (K:=K) rfl) (by rfl) T.z_len (by rfl) (zaa (pv 1) pa_nil)) zab) pa_nil))) (fun _ _ _ _ _=>(zaC (i:=0) (show List.Nodup [(Str.ofString "reader"),(Str.ofString "papers"),(Str.ofString "readers"),(Str.ofString "paper")] by decide +kernel) rfl (Or.inl rfl))) (fun _ _ _ _ _=>(zft (zaJ (K:=K) rfl (zar G_1 (hr.mono (by decide)) (by rfl) T.m_1 T.F_1.kp T.b_1 .nil zaN (zaa (pv 1) (zaa (pv 2) (zaa (pv 3) (zaa (pv 0) pa_nil))))) (fun _=>rfl)))) (fun _ _ _ _ _=>(pv 0))))),?_⟩;obtain ⟨_,a,b,k,hs,rs,rfl,ha,L,k1,k2,hz,h2,q⟩:=h;obtain ⟨ps,hb,hl,hr'⟩:=id L;symm;refine zf6 ⟨by omega,by omega,by omega,by omega⟩ ?_;have en:((ps.length:Int)+1-1).toNat=rs.length:=by omega
  rw [en];refine zhu (zcv _ _ _) (by omega) (mayB hs rs k) (fun i=>1+(i:Int)) (fun i H' Q' hi s q'=>?_) (fun i H' Q' hi s hc q'=>?_) fun p H2 f s e=>q p H2 f s e
  ·have ha':=s.seq ha;have L':=L.same s;symm;refine zgQ ha' L' k1 k2 (by omega) (by omega) h2 ?_;symm;have e:(1+(i:Int)-1).toNat=i:=by omega
   rw [e];exact q'
  ·symm;exact q'
theorem zb9 {H:Hp} {a b:Addr} {k:Int} {hs:List Int} {rs:LI} {Q:VK} {E:XK} (h1:SqL K H a (hs.map V.int)) (h2:LL K H b rs) (k1:1≤k) (k2:k≤hs.length) (hz:rs.length≤1000) (h3:∀ i,i < rs.length→(rs.getD i []).length=2)
  (q:∀ p H2,H p=none→Same H H2→H2 p=some (.lst ((zaf hs rs k).map V.int))→Q (.ref p) H2):zcF K [.ref a,.ref b,.int k] H Q E:=⟨rfl,a,b,k,hs,rs,rfl,h1,h2,k1,k2,hz,h3,q⟩
def okT (left row:List Int) (r:Int):Bool:=!decide (r∈row) && decide (0 < left.getD (r-1).toNat 0)
theorem zfJ {hs:List Int} {rs:LI} {left row:List Int} {k:Int} {i:Nat}:fitT hs rs left k row i=(mayB hs rs k i && okT left row (1+(i:Int))):=by
 unfold fitT mayB okT;have e:((1:Int)+(i:Int)-1).toNat=i:=by omega
 have e2:(1:Int)+(i:Int)=(i:Int)+1:=by omega
 have e3:decide (1≤left.getD i 0)=decide (0 < left.getD i 0):=decide_eq_decide.mpr (by omega);rw [e,e2,e3];generalize decide (0 < left.getD i 0)=x;generalize decide ((i:Int)+1∈row)=y
 cases x <;> cases y <;> simp
theorem zjo {hs:List Int} {rs:LI} {k:Int} {i:Nat} (hi:i < (zaf hs rs k).length):∃ a,a < rs.length∧mayB hs rs k a=true∧(zaf hs rs k).getD i 0=1+(a:Int)∧∀ b,b < a→mayB hs rs k b=true→∃ j,j < i∧(zaf hs rs k).getD j 0=1+(b:Int):=by
 unfold zaf at hi ⊢;generalize hl:(List.range rs.length).filter (mayB hs rs k)=l at hi ⊢;rw [length_map] at hi;have hm:l[i]∈(List.range rs.length).filter (mayB hs rs k):=hl▸getElem_mem hi;obtain ⟨m1,m2⟩:=mem_filter.mp hm;have hp:l.Pairwise (· < ·):=hl▸List.Pairwise.filter _ List.pairwise_lt_range;have hg:∀ j (hj:j < l.length),(l.map fun i:Nat=>1+(i:Int)).getD j 0=1+((l[j]:Nat):Int):=fun j hj=>by
  rw [getD_eq_getElem?_getD,getElem?_map,getElem?_eq_getElem hj];rfl
 refine ⟨l[i],mem_range.mp m1,m2,hg i hi,fun b hb hm=>?_⟩;have hbm:b∈l:=hl▸mem_filter.mpr ⟨mem_range.mpr (by have:=mem_range.mp m1;omega),hm⟩;obtain ⟨j,hj,ej⟩:=getElem_of_mem hbm;refine ⟨j,?_,by rw [hg j hj,ej]⟩;refine Nat.lt_of_not_le fun hle=>?_;rcases Nat.eq_or_lt_of_le hle with z | z
 ·subst z;omega
 ·have:=List.pairwise_iff_getElem.mp hp i j hi hj z;omega
theorem zke {hs:List Int} {rs:LI} {k:Int} {b:Nat} (hb:b < rs.length) (hm:mayB hs rs k b=true):∃ j,j < (zaf hs rs k).length∧(zaf hs rs k).getD j 0=1+(b:Int):=by
 have:(1+(b:Int))∈zaf hs rs k:=mem_map.mpr ⟨b,mem_filter.mpr ⟨mem_range.mpr hb,hm⟩,rfl⟩;exact L2.mem_getD this
theorem zid {hs:List Int} {rs:LI} {left row:List Int} {k:Int} {i:Nat} (hi:i < (zaf hs rs k).length) (h:okT left row ((zaf hs rs k).getD i 0)=true) (hb:∀ j,j < i→okT left row ((zaf hs rs k).getD j 0)=false):zbT hs rs left k row=(zaf hs rs k).getD i 0:=by
 obtain ⟨a,a1,a2,a3,a4⟩:=zjo hi;rw [a3] at h ⊢;rw [Int.add_comm];refine zhW a1 (by rw [zfJ,a2,h];rfl) fun b hlt=>?_;rw [zfJ]
 cases hm:mayB hs rs k b with
 | false=>rfl
 | true =>
   obtain ⟨j,j1,j2⟩:=a4 b hlt hm;have:=hb j j1;rw [j2] at this;rw [this];rfl
theorem zgR {hs:List Int} {rs:LI} {left row:List Int} {k:Int} (hb:∀ j,j < (zaf hs rs k).length→okT left row ((zaf hs rs k).getD j 0)=false):zbT hs rs left k row=0:=by
 refine ziY fun b hlt=>?_;rw [zfJ]
 cases hm:mayB hs rs k b with
 | false=>rfl
 | true =>
   obtain ⟨j,j1,j2⟩:=zke hlt hm;have:=hb j j1;rw [j2] at this;rw [this];rfl
def zdj (K:PySem.W.Frag):Sp:=fun vs H Q _=>vs.length=5∧∃ (a b c d:Addr) (k:Int) (hs:List Int) (rs:LI) (left row:List Int),vs=[.ref a,.ref b,.ref c,.int k,.ref d]∧SqL K H a (hs.map V.int)∧LL K H b rs∧SqL K H c (left.map V.int)∧SqL K H d (row.map V.int)∧InB hs rs∧left.length=rs.length∧1≤k∧k≤hs.length∧∀ H',Same H H'→Q (.int (zbT hs rs left k row)) H'
theorem zfc (T:Txt K mg t):FnOk P w K mg base CX0 3 t.f_19 t.d_19 ["papers","readers","left","paper","row"] (zdj K):=by
 have G_2:=zb3 (P:=P) (w:=w) (base:=base) T;refine T.F_19.ok sc_19 (fun _ _ _ _ h=>h.1) fun cdv A outer s H vs Q E hr h=>by
  refine ⟨_,(zad (zbK PassesOwn.never rfl (za0 (K:=K) rfl (zar G_2 (hr.mono (by decide)) (by rfl) T.m_2 T.F_2.kp T.b_2 .nil zaN (zaa (pv 0) (zaa (pv 1) (zaa (pv 3) pa_nil))))) (zaC (i:=5) sc_19.nd rfl (Or.inl rfl))
   (zae (zaY (zdf (zas (ze0 (K:=K) rfl (zdW hr)) (pv 5) (pv 4) (by with_unfolding_all rfl)) (zcj (zas (op_gt) (zaM (zah (K:=K) rfl) (pv 2) (zap (op_sub) (pv 5) zab) (fun _ _=>rfl)) zab (zaA _)))).pt
   (zae (zan (pv 5))) pss_nil)))
   (zae (zan zab))),?_⟩
  obtain ⟨_,a,b,c,d,k,hs,rs,left,row,rfl,h1,h2,h3,h4,B,hl,k1,k2,q⟩:=h;have B1:=B.lp;have B2:=B.lr;symm;refine zb9 h1 h2 k1 k2 (by omega) B.r2 fun p H2 f s e=>?_;have h3':=s.seq h3;have h4':=s.seq h4;refine zbq (SqL.of e) ?_;refine zcJ (xs:=(zaf hs rs k).map V.int) (fun i σ H'=>(∃ v,σ=[some (.ref a),some (.ref b),some (.ref c),some (.int k),some (.ref d),v])∧H'=H2∧∀ j,j < i→okT left row ((zaf hs rs k).getD j 0)=false) ⟨⟨none,rfl⟩,rfl,fun j hj=>absurd hj (by omega)⟩ ?_ ?_ ?_
  ·rintro i σ H' _ ⟨_,rfl,_⟩;exact SqL.of e
  ·rintro i y σ H' hy ⟨⟨v,rfl⟩,rfl,hall⟩;obtain ⟨hi,rfl⟩:=zc8 hy;obtain ⟨x,x1,x2,x3,_⟩:=zjo hi;symm;have ends:okT left row ((zaf hs rs k).getD i 0)=false→∀ j,j < i+1→okT left row ((zaf hs rs k).getD j 0)=false:=fun z j hj=>by
    by_cases e:j=i
    ·rw [e];exact z
    ·exact hall j (by omega)
   refine zf4 (fun g1=>?_) (fun g1=>?_)
   ·symm;refine zb1 (fun g2=>?_) (fun g2=>?_)
    ·symm;have hok:okT left row ((zaf hs rs k).getD i 0)=true:=by unfold okT;rw [decide_eq_false g1,decide_eq_true g2];rfl
     rw [← zid hi hok hall];exact q _ s
    ·symm;exact ⟨⟨_,rfl⟩,rfl,ends (by unfold okT;rw [decide_eq_false g2,Bool.and_false])⟩
   ·symm;refine iteF ?_;symm;exact ⟨⟨_,rfl⟩,rfl,ends (by unfold okT;rw [decide_eq_true g1];rfl)⟩
  ·rintro σ H' ⟨⟨v,rfl⟩,rfl,hall⟩;rw [length_map] at hall;symm;rw [← zgR (left:=left) (row:=row) hall];exact q _ s
theorem zfK {H:Hp} {a b c d:Addr} {k:Int} {hs:List Int} {rs:LI} {left row:List Int} {Q:VK} {E:XK} (h1:SqL K H a (hs.map V.int)) (h2:LL K H b rs) (h3:SqL K H c (left.map V.int)) (h4:SqL K H d (row.map V.int)) (B:InB hs rs) (hl:left.length=rs.length) (k1:1≤k) (k2:k≤hs.length) (q:∀ H',Same H H'→Q (.int (zbT hs rs left k row)) H'):zdj K [.ref a,.ref b,.ref c,.int k,.ref d] H Q E:=⟨rfl,a,b,c,d,k,hs,rs,left,row,rfl,h1,h2,h3,h4,B,hl,k1,k2,q⟩
def zdR (K:PySem.W.Frag):Sp:=fun vs H Q _=>vs.length=2∧∃ (b:Addr) (rows:LI) (x:Int),vs=[.ref b,.int x]∧LL K H b rows∧rows.length≤20∧∀ H',Same H H'→Q (.int (cntB rows x:Int)) H'
theorem zfL (T:Txt K mg t):FnOk P w K mg base CX0 1 t.f_9 t.d_9 ["rows","reader"] (zdR K):=by
 refine T.F_9.ok sc_9 (fun _ _ _ _ h=>h.1) fun cdv A outer s H vs Q E hr h=>by
  refine ⟨_,(zae (zan (zaj (zaq (K:=K) rfl) (by rfl) T.z_len (by rfl) (zaa (zbD (zaD (sc:=zac s_9) (XN:=["rows","reader"]) (N:=["row","reader"]) (own:=1) (js:=[1]) rfl rfl (by decide +kernel)) rfl (za0 (K:=K) rfl (pv 0)) (fun _ _ _ _ _=>(zaC (i:=0) (show List.Nodup [(Str.ofString "row"),(Str.ofString "reader")] by decide +kernel) rfl (Or.inl rfl))) (fun _ _ _ _ _=>(zft (zas (zh0 (K:=K) rfl (zdW hr)) (pv 1) (pv 0) (by with_unfolding_all rfl)))) (fun _ _ _ _ _=>(pv 0))) pa_nil)))),?_⟩;obtain ⟨_,b,rows,x,rfl,L,hl,q⟩:=h;obtain ⟨ps,hb,hpl,hr⟩:=id L;symm;refine zbq hb ?_;refine ziG hb hpl (by omega) (x:=x) (fun i H' Q' hi s q'=>?_) fun p H2 zs f s e ez=>?_
  ·have hrow:=s _ _ (hr i hi);symm;exact q'
  symm;rw [ez];exact q _ s
theorem zgS {H:Hp} {b:Addr} {rows:LI} {x:Int} {Q:VK} {E:XK} (h:LL K H b rows) (hl:rows.length≤20) (q:∀ H',Same H H'→Q (.int (cntB rows x:Int)) H'):zdR K [.ref b,.int x] H Q E:=⟨rfl,b,rows,x,rfl,h,hl,q⟩
theorem zi6 (rs rows:LI) (n:Nat) (hn:n=rs.length):((List.range n).filter fun _=>true).map (fun i=>V.int ((rs.getD i []).getD 1 0-(cntB rows (1+(i:Int)):Int)))=(zco rs rows).map V.int:=by
 subst hn;rw [List.filter_eq_self.mpr (fun _ _=>rfl)];unfold zco;rw [map_map];refine List.map_congr_left fun i _=>?_;show V.int _=V.int _;rw [Int.add_comm 1 (i:Int)]
def zc2 (K:PySem.W.Frag):Sp:=fun vs H Q _=>vs.length=2∧∃ (a b:Addr) (rs rows:LI),vs=[.ref a,.ref b]∧LL K H a rs∧LL K H b rows∧rs.length≤8∧rows.length≤20∧(∀ i,i < rs.length→(rs.getD i []).length=2)∧∀ p H',H p=none→Same H H'→H' p=some (.lst ((zco rs rows).map V.int))→Q (.ref p) H'
theorem zca (T:Txt K mg t):FnOk P w K mg base CX0 2 t.f_8 t.d_8 ["readers","rows"] (zc2 K):=by
 have G_9:=zfL (P:=P) (w:=w) (base:=base) T;refine T.F_8.ok sc_8 (fun _ _ _ _ h=>h.1) fun cdv A outer s H vs Q E hr h=>by
  refine ⟨_,(zae (zan (zbD (zaD (sc:=zac s_8) (XN:=["readers","rows"]) (N:=["reader","row","rows"]) (own:=2) (js:=[1]) rfl rfl (by decide +kernel)) rfl (ziO (K:=K) rfl (by rfl) T.z_enumerate (zaa (pv 0) pa_nil)) (fun _ _ _ _ _=>(zfx (K:=K) (n:=2) rfl rfl (zct (zaC (i:=0) (show List.Nodup [(Str.ofString "reader"),(Str.ofString "row"),(Str.ofString "rows")] by decide +kernel) rfl (Or.inl rfl)) (zct (zaC (i:=1) (show List.Nodup [(Str.ofString "reader"),(Str.ofString "row"),(Str.ofString "rows")] by decide +kernel) rfl (Or.inl rfl)) pgs_nil)))) (fun _ _ _ _ _=>zb0) (fun _ _ _ _ _=>(zap (op_sub) (zaM (zah (K:=K) rfl) (pv 1) zab (fun _ _=>rfl)) (zar G_9 (hr.mono (by decide)) (by rfl) T.m_9 T.F_9.kp T.b_9 .nil zaN (zaa (pv 2) (zaa (pv 0) pa_nil)))))))),?_⟩;obtain ⟨_,a,b,rs,rows,rfl,L1,L2,l1,l2,r2,q⟩:=h;obtain ⟨ps,ha,hpl,hpr⟩:=id L1;have en:(ps.map V.ref).length=rs.length:=by rw [length_map];exact hpl
  symm;refine zgb ha ?_;refine zeS (zcz.enum ha) (by omega) (fun _=>true) (fun i=>.int ((rs.getD i []).getD 1 0-(cntB rows (1+(i:Int)):Int))) (fun i H' Q' _ _ q'=>q' _ (Same.refl _)) (fun i H' Q' hi s _ q'=>?_) fun p H2 f s e=>?_
  ·have hi':i < rs.length:=by omega
   have ex:(ps.map V.ref).getD i .non=.ref (ps.getD i 0):=by
    rw [getD_eq_getElem?_getD,getElem?_map,getElem?_eq_getElem (by omega),getD_eq_getElem?_getD,getElem?_eq_getElem (by omega)];rfl
   rw [ex];have h2:=r2 i hi';have hrow:=s _ _ (hpr i hi');show (_:TE) (some (.int (1+(i:Int)))::some (.ref (ps.getD i 0))::_) _ _;symm;refine zgS (L2.same s) l2 fun H3 s3=>?_;symm;exact q' _ s3
  rw [zi6 rs rows _ en] at e;exact q p H2 f s e
theorem zcb {H:Hp} {a b:Addr} {rs rows:LI} {Q:VK} {E:XK} (h1:LL K H a rs) (h2:LL K H b rows) (l1:rs.length≤8) (l2:rows.length≤20) (r2:∀ i,i < rs.length→(rs.getD i []).length=2)
  (q:∀ p H',H p=none→Same H H'→H' p=some (.lst ((zco rs rows).map V.int))→Q (.ref p) H'):zc2 K [.ref a,.ref b] H Q E:=⟨rfl,a,b,rs,rows,rfl,h1,h2,l1,l2,r2,q⟩
def zcr (K:PySem.W.Frag) (C:Addr):Sp:=fun vs H Q _=>vs.length=1∧∃ (x:Addr) (F:Addr→Prop) (st:ExS),vs=[.ref x]∧ExAt C H x F st∧InB st.hs st.rs∧(∀ p H',H p=none→Same H H'→H' p=some (.lst ((zfF st).map V.int))→Q (.ref p) H')
theorem zfd (T:Txt K mg t):FnOk P w K mg base CX0 3 t.f_34 t.d_34 ["self"] (zcr K t.C_Exam):=by
 have G_8:=zca (P:=P) (w:=w) (base:=base) T;refine T.F_34.ok sc_34 (fun _ _ _ _ h=>h.1) fun cdv A outer s H vs Q E hr h=>by
  refine ⟨_,(zae (zan (zar G_8 (hr.mono (by decide)) (by rfl) T.m_8 T.F_8.kp T.b_8 .nil zaN (zaa (zay (K:=K) rfl (pv 0)) (zaa (zay (K:=K) rfl (pv 0)) pa_nil))))),?_⟩;obtain ⟨_,x,F,st,rfl,E0,BB,q⟩:=h;have B1:=BB.lp;have B2:=BB.lr;walk_at "hd";have L:LL K H e.b st.rs:=⟨e.ps,SqL.of hhb,I.lp,I.rp⟩
  have M:LL K H e.c st.nm:=⟨e.qs,SqL.of hhc,I.lq,I.rq⟩
  symm;refine zcb L M (by omega) (by have:=I.wf.n10 BB;omega) BB.r2 fun p H2 f s z=>?_;exact q p H2 f s z
theorem zfM {K:PySem.W.Frag} {C x:Addr} {H:Hp} {F:Addr→Prop} {st:ExS} {Q:VK} {E:XK} (h:ExAt C H x F st) (B:InB st.hs st.rs) (q:(∀ p H',H p=none→Same H H'→H' p=some (.lst ((zfF st).map V.int))→Q (.ref p) H')):zcr K C [.ref x] H Q E:=⟨rfl,x,F,st,rfl,h,B,q⟩
theorem zfN {K:PySem.W.Frag} {C x:Addr} {H:Hp} {F:Addr→Prop} {st:ExS} {Q:VK} {E:XK} {σ:L2.St} (h:ExAt C H x F st) (B:InB st.hs st.rs) (q:(∀ p H',H p=none→Same H H'→H' p=some (.lst ((zfF st).map V.int))→Q (.ref p) H')):zbH C "left" (zcr K C) E tNil σ (.ref x) H Q:=by
 obtain ⟨dx,fs,e,l⟩:=h.ob;exact zau e (l _ (by decide +kernel)) (zeN (zfM h B q))
def zbW (K:PySem.W.Frag) (C:Addr):Sp:=fun vs H Q _=>vs.length=2∧∃ (x:Addr) (F:Addr→Prop) (st:ExS) (k:Int),vs=[.ref x,.int k]∧ExAt C H x F st∧InB st.hs st.rs∧st.dl.isSome=true∧1≤k∧k≤st.nm.length∧∀ H' F',ExFr H H' F F'→ExAt C H' x F' (zbU st (k-1).toNat)→Q (.int (zbG st (k-1).toNat)) H'
theorem zc3 (T:Txt K mg t):FnOk P w K mg base CX0 4 t.f_41 t.d_41 ["self","paper"] (zbW K t.C_Exam):=by
 have G_42:=zcM (P:=P) (w:=w) (base:=base) T;have G_19:=zfc (P:=P) (w:=w) (base:=base) T;have G_34:=zfd (P:=P) (w:=w) (base:=base) T;refine T.F_41.ok sc_41 (fun _ _ _ _ h=>h.1) fun cdv A outer s H vs Q E hr h=>by
  refine ⟨_,(zad (zaY (zdg (zaJ (K:=K) rfl (zaQ (pv 0) T.cl_Exam T.me_42 G_42 (hr.mono (by decide)) T.b_42 .nil zaN (zaa (pv 1) pa_nil)) (fun _=>rfl)))
   (zae (zan zab)) pss_nil)
   (zad (zaU (i:=2) sc_41.nd rfl (Or.inl rfl) (zaM (zah (K:=K) rfl) (zay (K:=K) rfl (pv 0)) (zap (op_sub) (pv 1) zab) (fun _ _=>rfl)))
   (zad (zaU (i:=3) sc_41.nd rfl (Or.inl rfl) (zar G_19 (hr.mono (by decide)) (by rfl) T.m_19 T.F_19.kp T.b_19 .nil zaN (zaa (zay (K:=K) rfl (pv 0)) (zaa (zay (K:=K) rfl (pv 0)) (zaa (zbQ (pv 0) T.cl_Exam T.me_34 G_34 (hr.mono (by decide)) T.b_34 .nil zaN) (zaa (pv 1) (zaa (pv 2) pa_nil)))))))
   (zad (zaY (zas (op_gt) (pv 3) zab (zaA _))
   (zae (zaE (zdh (K:=K) rfl PySem.F.plainAttrs_list PySem.F.slot_list_append PySem.F.type_list_append mt_append (pv 2) (zaa (pv 3) pa_nil)))) pss_nil)
   (zae (zan (pv 3))))))),?_⟩
  obtain ⟨_,x,F,st,k,rfl,E0,BB,hd,k1,k2,q⟩:=h;have B1:=BB.lp;have B2:=BB.lr;have E0':=E0;walk_at "hd";have lq:=I.lq;have ld:=I.ld;have l10:=I.wf.n10 BB;have hk:(k-1).toNat < st.nm.length:=by omega
  have hdic:=I.rd _ hk;have hrow:=I.rq _ hk;have hvk:=I.vk _ hk;have hlr:=(I.wf.row _ hk).len;symm;refine zc1 E0' BB k1 k2 (fun Q z=>zeM (i:=1) rfl z) fun H1 s1=>?_;symm
  cases hn:zcU st (k-1).toNat with
  | false =>
    refine iteT ?_;have ht:zbG st (k-1).toNat=0:=by unfold zbG;rw [hn];rfl
    have hm:zbU st (k-1).toNat=st:=by unfold zbU;rw [ht];rfl
    rw [ht,hm] at q;symm;exact q H1 F (ExFr.same s1) (E0'.same s1)
  | true =>
    refine iteF ?_;have ht:zbG st (k-1).toNat=zbT st.hs st.rs (zfF st) (((k-1).toNat:Int)+1) (st.nm.getD (k-1).toNat []):=by unfold zbG;rw [hn];rfl
    have ek:((k-1).toNat:Int)+1=k:=by omega
    rw [ek] at ht;have E1:=E0'.same s1;have hob1:=s1 _ _ hob;have hhc1:=s1 _ _ hhc;symm;refine zfN E1 BB fun p2 H2 f2 s2 e2=>?_;have s02:=s1.trans s2;have hrow2:=s02 _ _ hrow;have L:LL K H e.b st.rs:=⟨e.ps,SqL.of hhb,I.lp,I.rp⟩
    symm;refine zfK (SqL.of (s02 _ _ hha)) (L.same s02) (SqL.of e2) (SqL.of hrow2) BB (by unfold zfF zco;rw [length_map,length_range]) k1 (by have:=I.wf.ln hd;omega) fun H3 s3=>?_;rw [← ht];have s03:=s02.trans s3;have hrow3:=s03 _ _ hrow;symm;refine zb1 (fun h0=>?_) (fun h0=>?_)
    ·symm;refine zbg hrow3 (by rw [length_map];omega) fun H4 b4 e4=>?_;symm;obtain ⟨d,hdl⟩:=Option.isSome_iff_exists.mp hd;obtain ⟨nm,en⟩:=d;have enm:st.nm=nm:=by unfold ExS.nm;rw [hdl];rfl
     have een:st.en=en:=by unfold ExS.en;rw [hdl];rfl
     have I3:ExIn t.C_Exam H3 e st kvs:=I.keep fun b o _ z=>s03 b o z;have hneed:=hn;unfold zcU at hneed;simp only [Bool.and_eq_true,decide_eq_true_eq] at hneed;obtain ⟨⟨n1,n2⟩,_⟩:=hneed;obtain ⟨f,s,r1,r2,r3,r4⟩:=I.wf.row _ hk;have hrw:st.nm.getD (k-1).toNat []=[f,s]:=by
      rcases r4 with r4 | ⟨t',r4,_⟩
      ·exact r4
      ·rw [r4] at n1;exact absurd n1 (by simp)
     have h0':0 < zbT st.hs st.rs (zfF st) k (st.nm.getD (k-1).toNat []):=by rw [← ht];exact h0
     have sp:=zgL h0';rw [← ht] at sp;have wn:∀ r∈st.nm.getD (k-1).toNat [],(za7 en (k-1).toNat r).isSome=true:=fun r hr=>by
      obtain ⟨p,hp⟩:=zgj n2 hr;rw [een] at hp;rw [hp];rfl
     have hm:zbU st (k-1).toNat={ st with dl:=some (nm.set (k-1).toNat (nm.getD (k-1).toNat []++[zbG st (k-1).toNat]),en) }:=by unfold zbU;rw [if_pos h0,enm,een]
     rw [hm] at q;rw [enm] at hrw hrow3 hk e4 wn sp;have I4:=I3.third (t:=zbG st (k-1).toNat) hdl hk hrw ⟨sp.1,sp.2.1⟩ (by rw [← hrw];exact sp.2.2.1) (wn f (by rw [hrw];simp)) (wn s (by rw [hrw];simp)) b4 e4;exact q H4 F ⟨fun b o eb nb=>by rw [b4 _ (fun z=>nb ((hF _).mpr (by rw [z];exact ziW (zdK (by omega)))))];exact s03 _ _ eb,fun b z=>.inl z⟩ ⟨e,kvs,rfl,hF,I4⟩
    ·symm;have hm:zbU st (k-1).toNat=st:=by unfold zbU;rw [if_neg h0]
     rw [hm] at q;exact q H3 F (ExFr.same s03) (E0'.same s03)
theorem zdc {K:PySem.W.Frag} {C x:Addr} {H:Hp} {F:Addr→Prop} {st:ExS} {k:Int} {Q:VK} {E:XK} {σ:L2.St} {tk:TE} (h:ExAt C H x F st) (B:InB st.hs st.rs) (hd:st.dl.isSome=true) (k1:1≤k) (k2:k≤st.nm.length) (hk:∀ Q:VK,Q (.int k) H→tk σ H Q) (q:∀ H' F',ExFr H H' F F'→ExAt C H' x F' (zbU st (k-1).toNat)→Q (.int (zbG st (k-1).toNat)) H'):zbH C "name_third" (zbW K C) E (zfq tk tNil) σ (.ref x) H Q:=by
 obtain ⟨dx,fs,e,l⟩:=h.ob;exact zau e (l _ (by decide +kernel)) (zeO (hk _ (zeN ⟨rfl,x,F,st,k,rfl,h,B,hd,k1,k2,q⟩)))
def zcc (K:PySem.W.Frag) (C:Addr) (xa:XAd):Sp:=fun vs H Q E=>vs.length=4∧∃ (x:Addr) (F:Addr→Prop) (st:ExS) (k r p:Int),vs=[.ref x,.int k,.int r,.int p]∧ExAt C H x F st∧InB st.hs st.rs∧st.en.length≤900∧(∀ f,whyE st k r p=some f→∀ H',Same H H'→E (.ref (xa.at f)) none H')∧(whyE st k r p=none→∀ H' F',ExFr H H' F F'→ExAt C H' x F' (zbU (entS st (k-1).toNat r p) (k-1).toNat)→Q (.int (zbG (entS st (k-1).toNat r p) (k-1).toNat)) H')
theorem zc4 (T:Txt K mg t):FnOk P w K mg base (CX1 P w) 5 t.f_25 t.d_25 ["self","paper","reader","points"] (zcc K t.C_Exam t.xa):=by
 have G_36:=zbz (P:=P) (w:=w) (base:=base) T;have G_16:=zby (P:=P) (w:=w) (base:=base) T;have G_37:=zch (P:=P) (w:=w) (base:=base) T;have G_17:=zaV (P:=P) (w:=w) (base:=base) T;have G_41:=zc3 (P:=P) (w:=w) (base:=base) T;refine T.F_25.okX sc_25 (fun _ _ _ _ h=>h.1) fun cdv A outer s H vs Q E hr h=>by
  refine ⟨_,(zad (zaE (zbQ (pv 0) T.cl_Exam T.me_36 G_36 (hr.mono (by decide)) T.b_36 .nil passX))
   (zad (zaE (zar G_16 (hr.mono (by decide)) (by rfl) T.m_16 T.F_16.kp T.b_16 .nil passX (zaa (pv 1) (zaa zab (zaa (zaj (zaq (K:=K) rfl) (by rfl) T.z_len (by rfl) (zaa (zay (K:=K) rfl (pv 0)) pa_nil)) pa_nil)))))
   (zad (zaE (zar G_16 (hr.mono (by decide)) (by rfl) T.m_16 T.F_16.kp T.b_16 .nil passX (zaa (pv 2) (zaa zab (zaa (zaj (zaq (K:=K) rfl) (by rfl) T.z_len (by rfl) (zaa (zay (K:=K) rfl (pv 0)) pa_nil)) pa_nil)))))
   (zad (zaE (zaQ (pv 0) T.cl_Exam T.me_37 G_37 (hr.mono (by decide)) T.b_37 .nil passX (zaa (pv 1) (zaa (pv 2) pa_nil))))
   (zad (zaE (zar G_17 (hr.mono (by decide)) (by rfl) T.m_17 T.F_17.kp T.b_17 .nil passX (zaa (pv 3) (zaa (zbv (v:=.int 100) (by rfl) T.v_MOST_POINTS T.w_MOST_POINTS) pa_nil))))
   (zad (zhq (zdW hr) (zaM (zah (K:=K) rfl) (zay (K:=K) rfl (pv 0)) (zap (op_sub) (pv 1) zab) (fun _ _=>rfl)) (pv 2) (pv 3) rfl)
   (zae (zan (zaQ (pv 0) T.cl_Exam T.me_41 G_41 (hr.mono (by decide)) T.b_41 .nil zaN (zaa (pv 1) pa_nil)))))))))),?_⟩
  obtain ⟨_,x,F,st,k,r,p,rfl,E0,BB,h900,qe,q⟩:=h;have B1:=BB.lp;have B2:=BB.lr;have E0':=E0;walk_at "hd";have lq:=I.lq;have ld:=I.ld;have lp:=I.lp;have l10:=I.wf.n10 BB;have same0:Same H H:=fun _ _ z=>z;symm;refine zcL E0' (fun hd=>?_) (fun hd=>qe .time (by unfold whyE;rw [hd,if_neg (by decide)]) H same0);have hln:=I.wf.ln hd;symm;refine zbf (fun k1 k2'=>?_) (fun hn=>qe .unknown (by unfold whyE;rw [if_pos hd,if_neg (fun z=>hn ⟨z.1.1,z.1.2⟩)]) H same0);symm;refine zbf (fun r1 r2=>?_) (fun hn=>qe .unknown (by unfold whyE;rw [if_pos hd,if_neg (fun z=>hn ⟨z.2.1,by have:=z.2.2;omega⟩)]) H same0);have k2:k≤st.nm.length:=by omega
  have hkr:(1≤k∧k≤st.hs.length)∧1≤r∧r≤st.rs.length:=⟨⟨k1,by omega⟩,r1,by omega⟩
  have hk:(k-1).toNat < st.nm.length:=by omega
  have hdic:=I.rd _ hk;have hrow:=I.rq _ hk;have hvk:=I.vk _ hk;have hlr:=(I.wf.row _ hk).len;symm;refine zau hob (zhU (zec (by decide +kernel))) ?_;symm;refine zcq E0' BB k1 k2 fun H1 s1=>⟨fun hr'=>?_,fun hn=>qe .notdue (by unfold whyE;rw [if_pos hd,if_pos hkr,if_neg hn]) H1 s1⟩
  have hrr:=(I.wf.row _ hk).rng (mem_filter.mp hr').1;symm;refine zaZ (fun p0 p1=>?_) (fun hn=>qe .bounds (by unfold whyE;rw [if_pos hd,if_pos hkr,if_pos hr',if_neg hn]) H1 s1);have q:=q (ze6 I.wf hd k1 k2 hr' p0 p1);have hob1:=s1 _ _ hob;have hhd1:=s1 _ _ hhd;have hdic1:=s1 _ _ hdic;have hsk:=I.sk _ hk;symm;refine zgI hdic1 (by omega) fun H2 b2 e2=>?_;obtain ⟨d,hdl⟩:=Option.isSome_iff_exists.mp hd;obtain ⟨nm,en⟩:=d;have enm:st.nm=nm:=by unfold ExS.nm;rw [hdl];rfl
  have een:st.en=en:=by unfold ExS.en;rw [hdl];rfl
  have I1:ExIn t.C_Exam H1 e st kvs:=I.keep fun b o _ z=>s1 b o z;have I2:=I1.enter (k:=(k-1).toNat) (r:=r) (pts:=p) hdl (by rw [← enm];exact hk) ⟨p0,p1⟩ b2 e2;have e2':entS st (k-1).toNat r p={ st with dl:=some (nm,en++[[((k-1).toNat:Int)+1,r,p]]) }:=by unfold entS;rw [enm,een]
  rw [← e2'] at I2;have E2:ExAt t.C_Exam H2 e.x F (entS st (k-1).toNat r p):=⟨e,_,rfl,hF,I2⟩
  have nm2:(entS st (k-1).toNat r p).nm=st.nm:=rfl;symm;refine zdc E2 BB rfl k1 (by rw [nm2];exact k2) (fun Q z=>zeM (i:=1) rfl z) fun H3 F3 f3 E3=>?_;refine q H3 F3 (ExFr.trans ?_ f3) E3;exact ⟨fun b o eb nb=>by rw [b2 _ (fun z=>nb ((hF _).mpr (by rw [z];exact zgi (zdK (by omega)))))];exact s1 _ _ eb,fun b z=>.inl z⟩
theorem zfe {K:PySem.W.Frag} {xa:XAd} {C x:Addr} {H:Hp} {F:Addr→Prop} {st:ExS} {k r p:Int} {Q:VK} {E:XK} (h:ExAt C H x F st) (B:InB st.hs st.rs) (hd:st.dl.isSome=true) (k1:1≤k) (k2:k≤st.nm.length) (hr:r∈zbC st.nm st.en (k-1).toNat) (p0:0≤p) (p1:p≤100) (h9:st.en.length≤900) (q:∀ H' F',ExFr H H' F F'→ExAt C H' x F' (zbU (entS st (k-1).toNat r p) (k-1).toNat)→Q (.int (zbG (entS st (k-1).toNat r p) (k-1).toNat)) H'):zcc K C xa [.ref x,.int k,.int r,.int p] H Q E:=⟨rfl,x,F,st,k,r,p,rfl,h,B,h9,fun f z=>(by rw [ze6 h.wf hd k1 k2 hr p0 p1] at z;cases z),fun _=>q⟩
theorem zff {K:PySem.W.Frag} {xa:XAd} {C x:Addr} {H:Hp} {F:Addr→Prop} {st:ExS} {k r p:Int} {Q:VK} {E:XK} (h:ExAt C H x F st) (B:InB st.hs st.rs) (h9:st.en.length≤900) (qe:∀ f,whyE st k r p=some f→∀ H',Same H H'→E (.ref (xa.at f)) none H') (q:whyE st k r p=none→∀ H' F',ExFr H H' F F'→ExAt C H' x F' (zbU (entS st (k-1).toNat r p) (k-1).toNat)→Q (.int (zbG (entS st (k-1).toNat r p) (k-1).toNat)) H'):zcc K C xa [.ref x,.int k,.int r,.int p] H Q E:=⟨rfl,x,F,st,k,r,p,rfl,h,B,h9,qe,q⟩
def zdk (K:PySem.W.Frag):Sp:=fun vs H Q _=>vs.length=2∧∃ b c:Bool,vs=[.bl b,.bl c]∧Q (.bl (decide (b=c))) H
theorem zfg (T:Txt K mg t):FnOk P w K mg base CX0 1 t.f_45 t.d_45 ["_law_found","_law_due"] (zdk K):=by
 refine T.F_45.ok sc_45 (fun _ _ _ _ h=>h.1) fun cdv A outer s H vs Q E hr h=>by
  refine ⟨_,(zae (zan (zfW (zaj (zbe (K:=K) rfl) (by rfl) T.z_isinstance (by rfl) (zaa (pv 0) (zaa (zdw (v:=.ty "bool") (u:=.type "bool") (by rfl) T.z_bool (by rfl) rfl) pa_nil))) (zeB (zbZ (za4 (K:=K) rfl hr.units0) (pv 0) (pv 1) (zaA _)))))),?_⟩;obtain ⟨_,b,c,rfl,q⟩:=h;symm;refine iteT ?_;symm;exact q
theorem zdS {H:Hp} {b c:Bool} {Q:VK} {E:XK} (q:Q (.bl (decide (b=c))) H):zdk K [.bl b,.bl c] H Q E:=⟨rfl,_,_,rfl,q⟩
local macro_rules | `(tactic| walk_at "rd1")=>`(tactic| (with_reducible refine zdS ?_))
theorem zgn {B H H':Hp} {p:Addr} {rs:LI} (R:zaL B p rs H) (s:Same H H'):zaL B p rs H':=by
 obtain ⟨a1,a2,ps,a3,a4,a5,a6⟩:=R;exact ⟨a1.trans s,a2,ps,s _ _ a3,a4,a5,fun i hi=>⟨s _ _ (a6 i hi).1,(a6 i hi).2⟩⟩
def zdT (K:PySem.W.Frag):Sp:=fun vs H Q _=>vs.length=1∧∃ (a:Addr) (ns:List Int),vs=[.ref a]∧SqL K H a (ns.map V.int)∧ns.length≤8∧∀ p H',zaL H p (prsB ns) H'→Q (.ref p) H'
theorem zfO (T:Txt K mg t):FnOk P w K mg base CX0 1 t.f_12 t.d_12 ["numbers"] (zdT K):=by
 refine T.F_12.ok sc_12 (fun _ _ _ _ h=>h.1) fun cdv A outer s H vs Q E hr h=>by
  refine ⟨_,(zad (zaU (i:=1) sc_12.nd rfl (Or.inl rfl) (zax pa_nil))
   (zad (zbK PassesOwn.never rfl (ziN (K:=K) rfl (by rfl) T.z_enumerate (zaa (pv 0) pa_nil)) (zfx (K:=K) (n:=2) rfl rfl (zct (zaC (i:=2) sc_12.nd rfl (Or.inl rfl)) (zct (zaC (i:=3) sc_12.nd rfl (Or.inl rfl)) pgs_nil)))
   (zae (zbK PassesOwn.never rfl (za0 (K:=K) rfl (zf0 (zf3 (K:=K) rfl) (pv 0) (zhc (zap (op_addG) (pv 2) zab)) po_none)) (zaC (i:=4) sc_12.nd rfl (Or.inl rfl))
   (zae (zaE (zdh (K:=K) rfl PySem.F.plainAttrs_list PySem.F.slot_list_append PySem.F.type_list_append mt_append (pv 1) (zaa (zax (zaa (pv 3) (zaa (pv 4) pa_nil))) pa_nil)))))))
   (zae (zan (pv 1))))),?_⟩
  obtain ⟨_,a,ns,rfl,ha,hl,q⟩:=h;have hpl:=prs_len ns;have hpl2:(prsB ns).length≤64:=Nat.le_trans hpl (Nat.mul_le_mul hl hl);symm;refine zai (by decide) fun p1 H1 f1 s1 e1=>?_;symm;refine zgb (s1.seq ha) ?_;refine zj3 (xs:=ns.map V.int) (fun i σ H'=>∃ rows v2 v3 v4,σ=[some (.ref a),some (.ref p1),v2,v3,v4]∧zaL H p1 rows H'∧rows++prsB (ns.drop i)=prsB ns) ⟨[],none,none,none,rfl,zaL.start f1 s1 e1,by simp⟩ ?_ ?_ ?_
  ·rintro i σ H' _ ⟨rows,_,_,_,rfl,R,_⟩;exact R.same.seq ha
  ·rintro i x σ H0 H' hx ⟨rows,v2,v3,v4,rfl,R0,er⟩ s0;obtain ⟨hi,rfl⟩:=zc8 hx;have R:zaL H p1 rows H':=zgn R0 s0;rw [ziU hi] at er;symm;refine zd7 (R.same.seq ha) fun p2 H2 f2 s2 e2=>?_;have np:p2≠p1:=by
    obtain ⟨zs,hz,_⟩:=R.lst;exact (zag hz f2).symm
   have ei:(0+(i:Int)+1)=((i+1:Nat):Int):=by omega
   rw [ei,zeP,← map_drop] at e2;refine zbq (SqL.of e2) ?_;generalize ens:ns.drop (i+1)=ys at *;generalize ns.getD i 0=x at *;refine zcJ (xs:=ys.map V.int) (fun j σ H'=>∃ rows2 v4,σ=[some (.ref a),some (.ref p1),some (.int (0+(i:Int))),some (.int x),v4]∧zaL H p1 rows2 H'∧H' p2=some (.lst (ys.map V.int))∧rows2++((ys.drop j).map (fun y=>[x,y])++prsB ys)=prsB ns) ⟨rows,v4,rfl,zgn R s2,e2,er⟩ ?_ ?_ ?_
   ·rintro j σ H3 _ ⟨rows2,_,rfl,R3,e3,_⟩;exact SqL.of e3
   ·rintro j y σ H3 hy ⟨rows2,v4,rfl,R3,e3,er3⟩;obtain ⟨hj,rfl⟩:=zc8 hy;obtain ⟨zs,hz,hzl⟩:=R3.lst;have hlen:rows2.length≤64:=by
     have:=congrArg List.length er3;rw [length_append] at this;omega
    symm;refine zai (by simp) fun p4 H4 f4 s4 e4=>?_;symm;refine zbg (s4 _ _ hz) (by omega) fun H5 b5 e5=>?_;symm;refine ⟨rows2++[[x,ys.getD j 0]],_,rfl,R3.push f4 s4 e4 (s4 _ _ hz) b5 e5,by rw [b5 _ np];exact s4 _ _ e3,?_⟩;rw [List.drop_eq_getElem_cons hj] at er3;rw [List.append_assoc,← er3,getD_eq_getElem?_getD,getElem?_eq_getElem hj];rfl
   ·rintro σ H3 ⟨rows2,v4,rfl,R3,e3,er3⟩;rw [length_map,List.drop_length,map_nil,List.nil_append] at er3;exact ⟨rows2,_,_,_,rfl,R3,by first | exact er3 | (rw [ens];exact er3)⟩
  ·rintro σ H' ⟨rows,v2,v3,v4,rfl,R,er⟩;rw [length_map,List.drop_length] at er;have er2:rows=prsB ns:=by
    rw [← er];unfold prsB;simp
   symm;rw [← er2] at q;exact q _ _ R
theorem zgT {H:Hp} {Q:VK} {E:XK} {a:Addr} {ns:List Int} (h:SqL K H a (ns.map V.int)) (hl:ns.length≤8) (q:∀ p H',zaL H p (prsB ns) H'→Q (.ref p) H'):zdT K [.ref a] H Q E:=⟨rfl,a,ns,rfl,h,hl,q⟩
def zfP (rs rows:LI):Bool:=(zco rs rows).all fun x=>decide (0≤x)
theorem zi7 (ns:List Int) (n:Nat) (hn:n=ns.length):((List.range n).filter fun _=>true).map (fun i=>V.bl (decide (0≤ns.getD i 0)))=(ns.map fun x=>decide (0≤x)).map V.bl:=by
 subst hn;rw [List.filter_eq_self.mpr (fun _ _=>rfl),map_map];refine ext_getElem (by simp) fun i h1 h2=>?_;simp at h1;simp [h1]
theorem zfh {rs rows:LI}:zfP rs rows=true↔∀ k,k < rs.length→(cntB rows ((k:Int)+1):Int)≤(rs.getD k []).getD 1 0:=by
 unfold zfP zco;rw [all_map,all_eq_true];constructor
 ·intro h k hk;have:=h k (mem_range.mpr hk);simp only [Function.comp_apply,decide_eq_true_eq] at this;omega
 ·intro h k hk;have:=h k (mem_range.mp hk);simp only [Function.comp_apply,decide_eq_true_eq];omega
def zbX (K:PySem.W.Frag):Sp:=fun vs H Q _=>vs.length=2∧∃ (a b:Addr) (rs rows:LI),vs=[.ref a,.ref b]∧LL K H a rs∧LL K H b rows∧rs.length≤8∧rows.length≤20∧(∀ i,i < rs.length→(rs.getD i []).length=2)∧∀ H',Same H H'→Q (.bl (zfP rs rows)) H'
theorem zc5 (T:Txt K mg t):FnOk P w K mg base CX0 3 t.f_7 t.d_7 ["readers","rows"] (zbX K):=by
 have G_8:=zca (P:=P) (w:=w) (base:=base) T;refine T.F_7.ok sc_7 (fun _ _ _ _ h=>h.1) fun cdv A outer s H vs Q E hr h=>by
  refine ⟨_,(zae (zan (zaj (zhH (K:=K) rfl rfl) (by rfl) T.z_all (by rfl) (zaa (zbD (zaD (sc:=zac s_7) (XN:=["readers","rows"]) (N:=["left"]) (own:=1) (js:=[]) rfl rfl (by decide +kernel)) rfl (za0 (K:=K) rfl (zar G_8 (hr.mono (by decide)) (by rfl) T.m_8 T.F_8.kp T.b_8 .nil zaN (zaa (pv 0) (zaa (pv 1) pa_nil)))) (fun _ _ _ _ _=>(zaC (i:=0) (show List.Nodup [(Str.ofString "left")] by decide +kernel) rfl (Or.inl rfl))) (fun _ _ _ _ _=>zb0) (fun _ _ _ _ _=>(zbZ (op_ge) (pv 0) zab (zaA _)))) pa_nil)))),?_⟩;obtain ⟨_,a,b,rs,rows,rfl,L1,L2,l1,l2,r2,q⟩:=h;symm;refine zcb L1 L2 l1 l2 r2 fun p H1 f1 s1 e1=>?_;have hll:(zco rs rows).length=rs.length:=by unfold zco;rw [length_map,length_range]
  have hq:(zco rs rows).all (fun x=>decide (0≤x))=zfP rs rows:=rfl;generalize zco rs rows=ns at *;have hn:(ns.map V.int).length=ns.length:=length_map ..;refine zbq (SqL.of e1) ?_;refine zdt (zeS (zcz.one (zbL (SqL.of e1))) (by omega) (fun _=>true) (fun i=>.bl (decide (0≤ns.getD i 0))) (fun i H' Q' _ _ q'=>q' _ (Same.refl _)) (fun i H' Q' hi s _ q'=>?_) fun p2 H2 f2 s2 e2=>?_)
  ·have ex:(ns.map V.int).getD i .non=.int (ns.getD i 0):=by
    rw [getD_eq_getElem?_getD,getElem?_map,getElem?_eq_getElem (by omega),getD_eq_getElem?_getD,getElem?_eq_getElem (by omega)];rfl
   rw [ex];show (_:TE) (some (.int (ns.getD i 0))::_) _ _;symm;exact q' _ (Same.refl _)
  rw [zi7 ns _ hn] at e2;refine ziL (SqL.of e2) ?_;rw [all_map];have e3:(ns.all (id∘fun x=>decide (0≤x)))=zfP rs rows:=hq;rw [e3];exact q _ (s1.trans s2)
theorem zdd {H:Hp} {a b:Addr} {rs rows:LI} {Q:VK} {E:XK} (h1:LL K H a rs) (h2:LL K H b rows) (l1:rs.length≤8) (l2:rows.length≤20) (r2:∀ i,i < rs.length→(rs.getD i []).length=2)
  (q:∀ H',Same H H'→Q (.bl (zfP rs rows)) H'):zbX K [.ref a,.ref b] H Q E:=⟨rfl,a,b,rs,rows,rfl,h1,h2,l1,l2,r2,q⟩
theorem zls {row:List Int} {m:Nat} (nd:row.Nodup) (h:∀ r∈row,1≤r∧r≤m):row.length≤m:=by
 rw [← zhL nd h,zk0];exact Nat.le_trans (length_filter_le _ _) (by simp)
def flds (A G S:Addr):List (Str×V):=putF "spare" (.ref S) (putF "given" (.ref G) (putF "allowed" (.ref A) []))
theorem zlt (A G S:Addr):(flds A G S).lookup ("spare" : Str)=some (.ref S):=by
 unfold flds;rw [zat,if_pos rfl]
theorem zjp (A G S:Addr):(flds A G S).lookup ("given" : Str)=some (.ref G):=by
 unfold flds;rw [zat,if_neg (by decide +kernel),zat,if_pos rfl]
theorem zlu (A G S:Addr):(flds A G S).lookup ("allowed" : Str)=some (.ref A):=by
 unfold flds;rw [zat,if_neg (by decide +kernel),zat,if_neg (by decide +kernel),zat,if_pos rfl]
theorem zfQ (A G S:Addr) {m:Str} (h1:¬m = "spare") (h2:¬m = "given") (h3:¬m = "allowed"):(flds A G S).lookup m=none:=by
 unfold flds;rw [zat,if_neg h1,zat,if_neg h2,zat,if_neg h3];rfl
structure AtAd where
 x:Addr
 A:Addr
 G:Addr
 S:Addr
 aps:List Addr
 gps:List Addr
structure Att (C:Addr) (H:Hp) (d:AtAd) (al gv:LI) (sp:List Int):Prop where
 ob:∃ dx,H d.x=some (.ins C dx (flds d.A d.G d.S))
 ha:H d.A=some (.lst (d.aps.map V.ref))
 la:d.aps.length=al.length
 ra:∀ i,i < al.length→H (d.aps.getD i 0)=some (.lst ((al.getD i []).map V.int))∧d.aps.getD i 0∉d.gps∧d.aps.getD i 0≠d.S
 hg:H d.G=some (.lst (d.gps.map V.ref))
 lg:d.gps.length=gv.length
 ng:d.gps.Nodup
 rg:∀ i,i < gv.length→H (d.gps.getD i 0)=some (.lst ((gv.getD i []).map V.int))
 hs:H d.S=some (.lst (sp.map V.int))
 Sg:d.S∉d.gps
 Gg:d.G∉d.gps
 GS:d.G≠d.S
 Ag:d.A∉d.gps
 AS:d.A≠d.S
theorem Att.row {C:Addr} {H:Hp} {d:AtAd} {al gv:LI} {sp:List Int} (T:Att C H d al gv sp) {b:Addr} (hb:b∈d.gps):∃ xs:List V,H b=some (.lst xs):=by
 obtain ⟨i,hi,e⟩:=mem_getD (d:=0) hb;have:=T.rg i (by have:=T.lg;omega);rw [e] at this;exact ⟨_,this⟩
theorem Att.xg {C:Addr} {H:Hp} {d:AtAd} {al gv:LI} {sp:List Int} (T:Att C H d al gv sp):d.x∉d.gps:=fun h=>by
 obtain ⟨xs,e⟩:=T.row h;obtain ⟨dx,e2⟩:=T.ob;rw [e] at e2
 cases e2
theorem Att.xS {C:Addr} {H:Hp} {d:AtAd} {al gv:LI} {sp:List Int} (T:Att C H d al gv sp):d.x≠d.S:=fun h=>by
 obtain ⟨dx,e2⟩:=T.ob;rw [h,T.hs] at e2
 cases e2
theorem Att.keep {C:Addr} {H H':Hp} {d:AtAd} {al gv:LI} {sp:List Int} {D:Addr} {kvs:List (Key×V)} (T:Att C H d al gv sp) (hD:H D=some (.dK kvs)) (k:∀ b,b≠D→H' b=H b):Att C H' d al gv sp:=by
 have nl:∀ {b:Addr} {o:HO},H b=some o→(∀ kvs,o≠.dK kvs)→H' b=some o:=fun {b o} e ne=>by
  rw [k b (fun z=>by subst z;rw [hD] at e;exact ne kvs (Option.some.inj e).symm)];exact e
 obtain ⟨dx,ob⟩:=T.ob;exact ⟨⟨dx,nl ob (fun _ z=>by cases z)⟩,nl T.ha (fun _ z=>by cases z),T.la,fun i hi=>⟨nl (T.ra i hi).1 (fun _ z=>by cases z),(T.ra i hi).2⟩,nl T.hg (fun _ z=>by cases z),T.lg,T.ng,fun i hi=>nl (T.rg i hi) (fun _ z=>by cases z),nl T.hs (fun _ z=>by cases z),T.Sg,T.Gg,T.GS,T.Ag,T.AS⟩
theorem Att.same {C:Addr} {H H':Hp} {d:AtAd} {al gv:LI} {sp:List Int} (T:Att C H d al gv sp) (s:Same H H'):Att C H' d al gv sp:=by
 obtain ⟨dx,ob⟩:=T.ob;exact ⟨⟨dx,s _ _ ob⟩,s _ _ T.ha,T.la,fun i hi=>⟨s _ _ (T.ra i hi).1,(T.ra i hi).2⟩,s _ _ T.hg,T.lg,T.ng,fun i hi=>s _ _ (T.rg i hi),s _ _ T.hs,T.Sg,T.Gg,T.GS,T.Ag,T.AS⟩
theorem zgU {ps:List Addr} (nd:ps.Nodup) {i j:Nat} (hi:i < ps.length) (hj:j < ps.length) (h:ps.getD i 0=ps.getD j 0):i=j:=by
 rw [getD_eq_getElem?_getD,getD_eq_getElem?_getD,getElem?_eq_getElem hi,getElem?_eq_getElem hj] at h;exact (getElem_inj nd).mp h
theorem Att.setRow {C:Addr} {H H':Hp} {d:AtAd} {al gv:LI} {sp row:List Int} {p:Nat} (T:Att C H d al gv sp) (hp:p < gv.length) (b:But (d.gps.getD p 0) H H') (e:H' (d.gps.getD p 0)=some (.lst (row.map V.int))):Att C H' d al (gv.set p row) sp:=by
 have l:=T.lg;have hm:d.gps.getD p 0∈d.gps:=getD_mem (by omega);have nm:∀ {a:Addr},a∉d.gps→a≠d.gps.getD p 0:=fun h z=>h (z▸hm);obtain ⟨dx,ob⟩:=T.ob;refine ⟨⟨dx,by rw [b _ (nm T.xg)];exact ob⟩,by rw [b _ (nm T.Ag)];exact T.ha,T.la,fun i hi=>⟨by rw [b _ (nm (T.ra i hi).2.1)];exact (T.ra i hi).1,(T.ra i hi).2⟩,by rw [b _ (nm T.Gg)];exact T.hg,by rw [length_set];exact l,T.ng,fun i hi=>?_,by rw [b _ (nm T.Sg)];exact T.hs,T.Sg,T.Gg,T.GS,T.Ag,T.AS⟩;rw [length_set] at hi;rw [za5 hp]
 by_cases ei:i=p
 ·subst ei;rw [if_pos rfl];exact e
 ·rw [if_neg ei,b _ (fun z=>ei (zgU T.ng (by omega) (by omega) z))];exact T.rg i hi
theorem Att.setSp {C:Addr} {H H':Hp} {d:AtAd} {al gv:LI} {sp sp':List Int} (T:Att C H d al gv sp) (b:But d.S H H') (e:H' d.S=some (.lst (sp'.map V.int))):Att C H' d al gv sp':=by
 have l:=T.lg;obtain ⟨dx,ob⟩:=T.ob;refine ⟨⟨dx,by rw [b _ T.xS];exact ob⟩,by rw [b _ T.AS];exact T.ha,T.la,fun i hi=>⟨by rw [b _ (T.ra i hi).2.2];exact (T.ra i hi).1,(T.ra i hi).2⟩,by rw [b _ T.GS];exact T.hg,l,T.ng,fun i hi=>?_,e,T.Sg,T.Gg,T.GS,T.Ag,T.AS⟩;rw [b _ (fun z=>T.Sg (z▸getD_mem (by omega)))];exact T.rg i hi
def Frm (d:AtAd) (D:Addr) (H H':Hp):Prop:=∀ b o,H b=some o→b∉d.gps→b≠d.S→b≠D→H' b=some o
theorem Frm.refl {d:AtAd} {D:Addr} {H:Hp}:Frm d D H H:=fun _ _ e _ _ _=>e
theorem Frm.trans {d:AtAd} {D:Addr} {H H1 H2:Hp} (a:Frm d D H H1) (b:Frm d D H1 H2):Frm d D H H2:=fun c o e h1 h2 h3=>b c o (a c o e h1 h2 h3) h1 h2 h3
theorem Frm.but {d:AtAd} {D a:Addr} {H H':Hp} (b:But a H H') (h:a∈d.gps∨a=d.S∨a=D):Frm d D H H':=fun c o e h1 h2 h3=>by
 rw [b c (fun z=>by subst z;rcases h with h | h | h <;> contradiction)];exact e
def KsOk (lim ks:List Int):Prop:=ks.Nodup∧∀ k∈ks,1≤k∧k≤lim.length
theorem KsOk.push {lim ks:List Int} {x:Int} (h:KsOk lim ks) (hx:x∉ks) (h1:1≤x∧x≤lim.length):KsOk lim (ks++[x]):=by
 refine ⟨nodup_append.mpr ⟨h.1,by simp,fun a ha b hb=>?_⟩,fun k hk=>?_⟩
 ·have:b=x:=by simpa using hb
  subst this;intro e;subst e;exact hx ha
 ·rcases mem_append.mp hk with z | z
  ·exact h.2 k z
  ·have:k=x:=by simpa using z
   subst this;exact h1
def KpX (x:Addr) (H H':Hp):Prop:=∀ c o,H c=some o→c≠x→H' c=some o
theorem KpX.of {x:Addr} {H H':Hp} (s:Same H H'):KpX x H H':=fun c o e _=>s c o e
theorem KpX.but {x:Addr} {H H':Hp} (b:But x H H'):KpX x H H':=fun c o e n=>by rw [b c n];exact e
theorem KpX.trans {x:Addr} {H H1 H2:Hp} (a:KpX x H H1) (b:KpX x H1 H2):KpX x H H2:=fun c o e n=>b c o (a c o e n) n
theorem KpX.seq {K:PySem.W.Frag} {x C dx:Addr} {fs:List (Str×V)} {H H':Hp} {a:Addr} {xs:List V} (k:KpX x H H') (hx:H x=some (.ins C dx fs)) (h:SqL K H a xs):SqL K H' a xs:=by
 rcases h with (h | ⟨o,h⟩) | h
 ·exact .inl (.inl (k _ _ h (fun z=>by subst z;rw [hx] at h;cases h)))
 ·exact .inl (.inr ⟨o,k _ _ h (fun z=>by subst z;rw [hx] at h;cases h)⟩)
 ·exact .inr h
theorem KpX.ll {K:PySem.W.Frag} {x C dx:Addr} {fs:List (Str×V)} {H H':Hp} {a:Addr} {rs:LI} (k:KpX x H H') (hx:H x=some (.ins C dx fs)) (h:LL K H a rs):LL K H' a rs:=by
 obtain ⟨ps,h1,h2,h3⟩:=h;exact ⟨ps,k.seq hx h1,h2,fun i hi=>k _ _ (h3 i hi) (fun z=>by have:=h3 i hi;rw [z,hx] at this;cases this)⟩
def zbO (K:PySem.W.Frag) (C:Addr):Sp:=fun vs H Q _=>vs.length=3∧∃ (x dx a b:Addr) (hs:List Int) (rs:LI),vs=[.ref x,.ref a,.ref b]∧H x=some (.ins C dx [])∧SqL K H a (hs.map V.int)∧LL K H b rs∧InB hs rs ∧
 ∀ (d:AtAd) H',d.x=x→(∀ c o,H c=some o→c≠x→H' c=some o)→(∀ g∈d.gps,H g=none)→H d.S=none →
  Att C H' d ((List.range hs.length).map fun i:Nat=>zaf hs rs (1+(i:Int))) ((List.range hs.length).map fun _=>[]) ((List.range rs.length).map fun i=>(rs.getD i []).getD 1 0)→Q .non H'
theorem zcN (T:Txt K mg t):FnOk P w K mg base CX0 3 t.f_Attempt___init__ t.d_Attempt___init__ ["self","papers","readers"] (zbO K t.C_Attempt):=by
 have G_2:=zb3 (P:=P) (w:=w) (base:=base) T;refine T.F_Attempt___init__.ok sc_Attempt___init__ (fun _ _ _ _ h=>h.1) fun cdv A outer s H vs Q E hr h=>by
  refine ⟨_,(zad (zbx (K:=K) rfl (pv 0) (zbD (zaD (sc:=zac s_Attempt___init__) (XN:=["self","papers","readers"]) (N:=["paper","papers","readers"]) (own:=1) (js:=[1,2]) rfl rfl (by decide +kernel)) rfl (zcP (by rfl) T.z_range (zaa zab (zaa (zap (op_addG) (zaj (zaq (K:=K) rfl) (by rfl) T.z_len (by rfl) (zaa (pv 1) pa_nil)) zab) pa_nil))) (fun _ _ _ _ _=>(zaC (i:=0) (show List.Nodup [(Str.ofString "paper"),(Str.ofString "papers"),(Str.ofString "readers")] by decide +kernel) rfl (Or.inl rfl))) (fun _ _ _ _ _=>zb0) (fun _ _ _ _ _=>(zar G_2 (hr.mono (by decide)) (by rfl) T.m_2 T.F_2.kp T.b_2 .nil zaN (zaa (pv 1) (zaa (pv 2) (zaa (pv 0) pa_nil)))))))
   (zad (zbx (K:=K) rfl (pv 0) (zbD (zaD (sc:=zac s_Attempt___init__) (XN:=["self","papers","readers"]) (N:=["house"]) (own:=1) (js:=[]) rfl rfl (by decide +kernel)) rfl (za0 (K:=K) rfl (pv 1)) (fun _ _ _ _ _=>(zaC (i:=0) (show List.Nodup [(Str.ofString "house")] by decide +kernel) rfl (Or.inl rfl))) (fun _ _ _ _ _=>zb0) (fun _ _ _ _ _=>(zax pa_nil))))
   (zae (zbx (K:=K) rfl (pv 0) (zbD (zaD (sc:=zac s_Attempt___init__) (XN:=["self","papers","readers"]) (N:=["row"]) (own:=1) (js:=[]) rfl rfl (by decide +kernel)) rfl (za0 (K:=K) rfl (pv 2)) (fun _ _ _ _ _=>(zaC (i:=0) (show List.Nodup [(Str.ofString "row")] by decide +kernel) rfl (Or.inl rfl))) (fun _ _ _ _ _=>zb0) (fun _ _ _ _ _=>(zaM (zah (K:=K) rfl) (pv 0) zab (fun _ _=>rfl)))))))),?_⟩
  obtain ⟨_,x,dx,a,b,hs,rs,rfl,hx,ha,L,B,q⟩:=h;obtain ⟨psr,hb,hpl,hpr⟩:=id L;have B1:=B.lp;have B2:=B.lr;have hcl:=T.cl_Attempt;have hnA:=T.n_Attempt_allowed;have hnG:=T.n_Attempt_given;have hnS:=T.n_Attempt_spare;symm;refine zf6 ⟨by omega,by omega,by omega,by omega⟩ ?_;have en:((hs.length:Int)+1-1).toNat=hs.length:=by omega
  rw [en];refine zdt (zdI (zcz.one (zcv _ _ _)) (by omega) (fun i:Nat=>zaf hs rs (1+(i:Int))) (fun i H' Q' hi s q'=>?_) fun p1 H1 R1=>?_)
  ·show (_:TE) (some (.int (1+(i:Int)))::_) _ _;symm;exact zb9 (s.seq ha) (L.same s) (by omega) (by omega) (by omega) B.r2 q'
  obtain ⟨s1,f1,ps1,e1,l1,nd1,r1⟩:=id R1;rw [length_map,length_range] at l1 r1;symm;refine zaS (s1 _ _ hx) hcl hnA (by show 0 < 1000;decide) fun H2 b2 e2=>?_;have nx:∀ {c:Addr},H c=none→c≠x:=fun h z=>by subst z;rw [hx] at h;cases h
  have k2:KpX x H H2:=(KpX.of s1).trans (KpX.but b2);have ha2:=k2.seq hx ha;have L2:=k2.ll hx L;obtain ⟨psr2,hb2,hpl2,hpr2⟩:=id L2;symm;refine zbq ha2 ?_;have ehl:(hs.map V.int).length=hs.length:=length_map ..;refine zdt (zdI (zcz.one (zbL ha2)) (by omega) (fun _=>[]) (fun i H' Q' hi s q'=>?_) fun p3 H3 R3=>?_)
  ·show (_:TE) (some ((hs.map V.int).getD i .non)::_) _ _;symm;exact zai (by simp) q'
  obtain ⟨s3,f3,ps3,e3,l3,nd3,r3⟩:=id R3;rw [length_map,length_range,ehl] at l3 r3;symm;refine zaS (s3 _ _ e2) hcl hnG (by show 1 < 1000;decide) fun H4 b4 e4=>?_;have k4:KpX x H2 H4:=(KpX.of s3).trans (KpX.but b4);have L4:=k4.ll e2 L2;obtain ⟨psr4,hb4,hpl4,hpr4⟩:=id L4;have er4:(psr4.map V.ref).length=rs.length:=by rw [length_map];exact hpl4
  symm;refine zbq hb4 ?_;refine zdE (zbL hb4) (by omega) (fun i=>(rs.getD i []).getD 1 0) (fun i H' Q' hi s q'=>?_) fun p5 H5 f5 s5 e5=>?_
  ·have hi':i < rs.length:=by omega
   have ex:(psr4.map V.ref).getD i .non=.ref (psr4.getD i 0):=by
    rw [getD_eq_getElem?_getD,getElem?_map,getElem?_eq_getElem (by omega),getD_eq_getElem?_getD,getElem?_eq_getElem (by omega)];rfl
   rw [ex];have h2:=B.r2 i hi';have hrow:=s _ _ (hpr4 i hi');symm;exact q'
  symm;refine zaS (s5 _ _ e4) hcl hnS (by show 2 < 1000;decide) fun H6 b6 e6=>?_;rw [er4] at e5;have k6:KpX x H4 H6:=(KpX.of s5).trans (KpX.but b6);have c12:∀ {c:Addr} {o:HO},H1 c=some o→c≠x→H2 c=some o:=fun e h=>by rw [b2 _ h];exact e
  have c34:∀ {c:Addr} {o:HO},H3 c=some o→c≠x→H4 c=some o:=fun e h=>by rw [b4 _ h];exact e
  have c56:∀ {c:Addr} {o:HO},H5 c=some o→c≠x→H6 c=some o:=fun e h=>by rw [b6 _ h];exact e
  have n2:∀ {c:Addr},H2 c=none→c≠x:=fun h z=>by subst z;rw [e2] at h;cases h
  have n4:∀ {c:Addr},H4 c=none→c≠x:=fun h z=>by subst z;rw [e4] at h;cases h
  have fr2:∀ {c:Addr},H2 c=none→H c=none:=fun h=>s1.free (by rw [← b2 _ (n2 h)];exact h);have fr4:∀ {c:Addr},H4 c=none→H2 c=none:=fun h=>s3.free (by rw [← b4 _ (n4 h)];exact h);have hp1x:p1≠x:=nx f1;have hp3x:p3≠x:=n2 f3;have hp5x:p5≠x:=n4 f5;have A2:=c12 e1 hp1x;have A4:=k4 _ _ A2 hp1x;have G4:=c34 e3 hp3x;refine q ⟨x,p1,p3,p5,ps1,ps3⟩ H6 rfl ((k2.trans k4).trans k6) (fun g hg=>?_) (fr2 (fr4 f5)) ⟨⟨dx,e6⟩,k6 _ _ A4 hp1x,by rw [length_map,length_range];exact l1,fun i hi=>?_,k6 _ _ G4 hp3x,by rw [length_map,length_range];exact l3,nd3,fun i hi=>?_,c56 e5 hp5x,fun z=>?_,fun z=>?_,fun z=>?_,fun z=>?_,fun z=>?_⟩
  ·obtain ⟨i,hi,rfl⟩:=mem_getD (d:=0) hg;have hi:i < ps3.length:=hi;exact fr2 (r3 i (by omega)).2.1
  ·rw [length_map,length_range] at hi;obtain ⟨g1,g2,g3⟩:=r1 i hi;have h2:=c12 g1 (nx g2);have h4:=k4 _ _ h2 (nx g2);refine ⟨k6 _ _ h4 (nx g2),fun z=>?_,fun z=>?_⟩
   ·obtain ⟨j,hj,ej⟩:=mem_getD (d:=0) z;have hj:j < ps3.length:=hj;have:=(r3 j (by omega)).2.1;have ej':ps3.getD j 0=ps1.getD i 0:=ej;rw [ej',h2] at this
    cases this
   ·have z':ps1.getD i 0=p5:=z;rw [z',f5] at h4
    cases h4
  ·rw [length_map,length_range] at hi;obtain ⟨g1,g2,g3⟩:=r3 i hi;exact k6 _ _ (c34 g1 (n2 g2)) (n2 g2)
  ·obtain ⟨j,hj,ej⟩:=mem_getD (d:=0) z;have hj:j < ps3.length:=hj;obtain ⟨g1,g2,g3⟩:=r3 j (by omega);have h4:=c34 g1 (n2 g2);have ej':ps3.getD j 0=p5:=ej;rw [ej',f5] at h4
   cases h4
  ·obtain ⟨j,hj,ej⟩:=mem_getD (d:=0) z;have hj:j < ps3.length:=hj;exact (r3 j (by omega)).2.2 ej
  ·have z':p3=p5:=z;rw [z',f5] at G4
   cases G4
  ·obtain ⟨j,hj,ej⟩:=mem_getD (d:=0) z;have hj:j < ps3.length:=hj;have:=(r3 j (by omega)).2.1;have ej':ps3.getD j 0=p1:=ej;rw [ej',A2] at this
   cases this
  ·have z':p1=p5:=z;rw [z',f5] at A4
   cases A4
theorem zlv {K:PySem.W.Frag} {C:Addr} {H:Hp} {Q:VK} {E:XK} {x dx a b:Addr} {hs:List Int} {rs:LI} (h1:H x=some (.ins C dx [])) (h2:SqL K H a (hs.map V.int)) (h3:LL K H b rs) (B:InB hs rs)
  (q:∀ (d:AtAd) H',d.x=x→(∀ c o,H c=some o→c≠x→H' c=some o)→(∀ g∈d.gps,H g=none)→H d.S=none →
   Att C H' d ((List.range hs.length).map fun i:Nat=>zaf hs rs (1+(i:Int))) ((List.range hs.length).map fun _=>[]) ((List.range rs.length).map fun i=>(rs.getD i []).getD 1 0)→Q .non H'):zbO K C [.ref x,.ref a,.ref b] H Q E:=⟨rfl,x,dx,a,b,hs,rs,rfl,h1,h2,h3,B,q⟩
def zaI (K:PySem.W.Frag) (C:Addr) (n:Nat):Sp:=fun vs H Q _=>vs.length=3∧∃ (d:AtAd) (p:Int) (D:Addr) (al gv:LI) (lim sp ks:List Int),vs=[.ref d.x,.int p,.ref D]∧Att C H d al gv sp∧H D=some (.dK (kvT ks))∧Vld al gv lim sp 0∧KsOk lim ks∧lim.length≤ks.length+n∧lim.length≤8∧gv.length≤10∧1≤p∧p≤gv.length ∧
 (∀ H' gv' sp',Frm d D H H'→Att C H' d al gv' sp'→Fnd al gv gv' lim sp' ks (p-1).toNat→Q (.bl true) H') ∧
 (∀ H' ls,Frm d D H H'→Att C H' d al gv sp→H' D=some (.dK (kvT ls))→KsOk lim ls→Cls2 al gv sp ks ls→Cov al gv ls (p-1).toNat→Q (.bl false) H')
def zaH (K:PySem.W.Frag) (C:Addr) (n:Nat):Sp:=fun vs H Q _=>vs.length=3∧∃ (d:AtAd) (r:Int) (D:Addr) (al gv:LI) (lim sp ks:List Int),vs=[.ref d.x,.int r,.ref D]∧Att C H d al gv sp∧H D=some (.dK (kvT ks))∧Vld al gv lim sp 0∧KsOk lim ks∧lim.length≤ks.length+n∧lim.length≤8∧gv.length≤10∧r∈ks ∧
 (∀ H' gv' sp',Frm d D H H'→Att C H' d al gv' sp'→Fre al gv gv' lim sp' ks r→Q (.bl true) H') ∧
 (∀ H' ls,Frm d D H H'→Att C H' d al gv sp→H' D=some (.dK (kvT ls))→KsOk lim ls→Cls2 al gv sp ks ls→sp.getD (r-1).toNat 0=0→(∀ q,q < gv.length→r∈gv.getD q []→Cov al gv ls q)→Q (.bl false) H')
def zie (K:PySem.W.Frag) (C:Addr):Nat→Sp
 | 0=>fun _ _ _ _=>False
 | n+1=>zaH K C n
theorem zfR {K:PySem.W.Frag} {C:Addr} {n:Nat}:zie K C (n+1)=zaH K C n:=rfl
theorem zjq {K:PySem.W.Frag} {C:Addr} {n:Nat} {H:Hp} {Q:VK} {E:XK} {d:AtAd} {p:Int} {D:Addr} {al gv:LI} {lim sp ks:List Int} (T:Att C H d al gv sp) (hD:H D=some (.dK (kvT ks))) (V:Vld al gv lim sp 0) (k:KsOk lim ks) (hn:lim.length≤ks.length+n) (hm:lim.length≤8) (h10:gv.length≤10) (p1:1≤p) (p2:p≤gv.length)
  (q1:∀ H' gv' sp',Frm d D H H'→Att C H' d al gv' sp'→Fnd al gv gv' lim sp' ks (p-1).toNat→Q (.bl true) H')
  (q2:∀ H' ls,Frm d D H H'→Att C H' d al gv sp→H' D=some (.dK (kvT ls))→KsOk lim ls→Cls2 al gv sp ks ls→Cov al gv ls (p-1).toNat→Q (.bl false) H'):zaI K C n [.ref d.x,.int p,.ref D] H Q E:=⟨rfl,d,p,D,al,gv,lim,sp,ks,rfl,T,hD,V,k,hn,hm,h10,p1,p2,q1,q2⟩
theorem zlw {K:PySem.W.Frag} {C:Addr} {n:Nat} {H:Hp} {Q:VK} {E:XK} {d:AtAd} {r:Int} {D:Addr} {al gv:LI} {lim sp ks:List Int} (T:Att C H d al gv sp) (hD:H D=some (.dK (kvT ks))) (V:Vld al gv lim sp 0) (k:KsOk lim ks) (hn:lim.length≤ks.length+n) (hm:lim.length≤8) (h10:gv.length≤10) (hr:r∈ks)
  (q1:∀ H' gv' sp',Frm d D H H'→Att C H' d al gv' sp'→Fre al gv gv' lim sp' ks r→Q (.bl true) H')
  (q2:∀ H' ls,Frm d D H H'→Att C H' d al gv sp→H' D=some (.dK (kvT ls))→KsOk lim ls→Cls2 al gv sp ks ls→sp.getD (r-1).toNat 0=0→(∀ q,q < gv.length→r∈gv.getD q []→Cov al gv ls q)→Q (.bl false) H'):zaH K C n [.ref d.x,.int r,.ref D] H Q E:=⟨rfl,d,r,D,al,gv,lim,sp,ks,rfl,T,hD,V,k,hn,hm,h10,hr,q1,q2⟩
theorem zbb (T:Txt K mg t) (kk d:Nat) (G_Attempt_find_reader:FnOk P w K mg base CX0 kk t.f_Attempt_find_reader t.d_Attempt_find_reader ["self","paper","asked"] (zaI K t.C_Attempt d)):FnOk P w K mg base CX0 (kk+1) t.f_Attempt_free_reading t.d_Attempt_free_reading ["self","reader","asked"] (zaH K t.C_Attempt d):=by
 refine T.F_Attempt_free_reading.ok sc_Attempt_free_reading (fun _ _ _ _ h=>h.1) fun cdv A outer s H vs Q E hr h=>by
  refine ⟨_,(zad (zaY (zas (op_gt) (zaM (zah (K:=K) rfl) (zay (K:=K) rfl (pv 0)) (zap (op_sub) (pv 1) zab) (fun _ _=>rfl)) zab (zaA _))
   (zad (zju (zay (K:=K) rfl (pv 0)) (zap (op_sub) (pv 1) zab) (zhN (K:=K) rfl) zab ip_sub set_list)
   (zae (zan zb4))) pss_nil)
   (zad (zbK PassesOwn.never rfl (zcP (by rfl) T.z_range (zaa zab (zaa (zap (op_addG) (zaj (zaq (K:=K) rfl) (by rfl) T.z_len (by rfl) (zaa (zay (K:=K) rfl (pv 0)) pa_nil)) zab) pa_nil))) (zaC (i:=3) sc_Attempt_free_reading.nd rfl (Or.inl rfl))
   (zae (zaY (zdf (zas (zh0 (K:=K) rfl (zdW hr)) (pv 1) (zaM (zah (K:=K) rfl) (zay (K:=K) rfl (pv 0)) (zap (op_sub) (pv 3) zab) (fun _ _=>rfl)) (by with_unfolding_all rfl)) (zcj (zaJ (K:=K) rfl (zaQ (pv 0) T.cl_Attempt T.me_Attempt_find_reader G_Attempt_find_reader (hr.mono (by first | decide | exact Nat.le_refl _)) T.b_Attempt_find_reader .nil zaN (zaa (pv 3) (zaa (pv 2) pa_nil))) (fun _=>rfl)))).pt
   (zad (zaE (zdh (K:=K) rfl PySem.F.plainAttrs_list PySem.F.slot_list_remove PySem.F.type_list_remove mt_remove (zaM (zah (K:=K) rfl) (zay (K:=K) rfl (pv 0)) (zap (op_sub) (pv 3) zab) (fun _ _=>rfl)) (zaa (pv 1) pa_nil)))
   (zae (zan zb4))) pss_nil)))
   (zae (zan zb4)))),?_⟩
  obtain ⟨_,dd,r,D,al,gv,lim,sp,ks,rfl,A,hD,Vd,hk,hn,hm,h10,hrk,q1,q2⟩:=h;have hcl:=T.cl_Attempt;have hnS:=T.n_Attempt_spare;have hnG:=T.n_Attempt_given;obtain ⟨dx,hob⟩:=A.ob;have fS:=zlt dd.A dd.G dd.S;have fG:=zjp dd.A dd.G dd.S;have fM:=zfQ dd.A dd.G dd.S (m:="find_reader") (by decide +kernel) (by decide +kernel) (by decide +kernel);obtain ⟨r1,r2⟩:=hk.2 r hrk;have lsp:=Vd.ls;have hS:=A.hs;symm;refine zb1 (fun h0=>?_) (fun h0=>?_)
  ·symm;refine zk6 (SqL.of hS) (by omega) (by omega) ?_;symm;refine ziF hS (by omega) (by rw [length_map];omega) fun H1 b1 e1=>?_;symm;refine q1 H1 gv _ (Frm.but b1 (.inr (.inl rfl))) (A.setSp (sp':=sp.set (r-1).toNat (sp.getD (r-1).toNat 0-1)) b1 ?_) (Vd.taken r1 r2 h0);rw [e1,List.map_set]
  ·have hz:sp.getD (r-1).toNat 0=0:=by have:=Vd.s0 (r-1).toNat (by omega);omega
   have hGl:=A.hg;have lg:=A.lg;symm;refine zf6 ⟨by omega,by omega,by omega,by omega⟩ ?_;have en:((dd.gps.length:Int)+1-1).toNat=gv.length:=by omega
   rw [en];refine zdD (fun i σ H'=>∃ ls v,σ=[some (.ref dd.x),some (.int r),some (.ref D),v]∧Frm dd D H H'∧Att t.C_Attempt H' dd al gv sp∧H' D=some (.dK (kvT ls))∧KsOk lim ls∧Cls2 al gv sp ks ls∧∀ q,q < i→r∈gv.getD q []→Cov al gv ls q) ⟨ks,none,rfl,Frm.refl,A,hD,hk,Cls2.refl,fun q hq=>absurd hq (by omega)⟩ ?_ ?_
   ·rintro i σ H' hi ⟨ls,v,rfl,F',A',hD',hk',C',hc⟩;obtain ⟨dx',hob'⟩:=A'.ob;have hGl':=A'.hg;have hrow:=A'.rg i hi;have ei:(1+(i:Int)-1).toNat=i:=by omega
    have hl':lim.length≤ls.length+d:=by
     have:=List.Nodup.length_le_of_subset hk.1 (fun z hz=>C'.1 z hz:ks ⊆ ls);omega
    symm;rw [ei];symm
    by_cases hin:r∈gv.getD i []
    ·rw [decide_eq_true hin];refine iteT ?_;symm;refine zau hob' fM ?_;symm;refine zjq A' hD' Vd hk' hl' hm h10 (by omega) (by omega) (fun H2 gv2 sp2 F2 A2 N2=>?_) (fun H2 ls2 F2 A2 hD2 hk2 C2 hc2=>?_)
     ·symm;refine iteT ?_;rw [ei] at N2;obtain ⟨dx2,hob2⟩:=A2.ob;have hGl2:=A2.hg;have lg2:=N2.lg;have hrow2:=A2.rg i (by omega);obtain ⟨hx2,N3⟩:=N2.freed hi hin (C'.1 r hrk);symm;rw [ei];symm;refine zfD hrow2 hx2 fun H3 b3 e3=>?_;symm;refine q1 H3 _ sp2 ((F'.trans F2).trans (Frm.but b3 (.inl (getD_mem (by omega))))) (A2.setRow (by omega) b3 e3) ⟨N3.v,N3.lg,N3.len,fun z hz=>N3.old z (C'.1 z hz),N3.own⟩
     ·symm;refine iteF ?_;symm;rw [ei] at hc2;refine ⟨ls2,_,rfl,F'.trans F2,A2,hD2,hk2,C'.trans C2,fun q hq hqr=>?_⟩
      by_cases e:q=i
      ·subst e;exact hc2
      ·exact (hc q (by omega) hqr).mono C2.1
    ·rw [decide_eq_false hin];refine iteF ?_;symm;refine ⟨ls,_,rfl,F',A',hD',hk',C',fun q hq hqr=>?_⟩
     by_cases e:q=i
     ·subst e;exact absurd hqr hin
     ·exact hc q (by omega) hqr
   ·rintro σ H' ⟨ls,v,rfl,F',A',hD',hk',C',hc⟩;symm;exact q2 H' ls F' A' hD' hk' C' hz hc
theorem zbm (T:Txt K mg t) (kk d:Nat) (G_Attempt_free_reading:FnOk P w K mg base CX0 kk t.f_Attempt_free_reading t.d_Attempt_free_reading ["self","reader","asked"] (zie K t.C_Attempt d)):FnOk P w K mg base CX0 (kk+1) t.f_Attempt_find_reader t.d_Attempt_find_reader ["self","paper","asked"] (zaI K t.C_Attempt d):=by
 refine T.F_Attempt_find_reader.ok sc_Attempt_find_reader (fun _ _ _ _ h=>h.1) fun cdv A outer s H vs Q E hr h=>by
  refine ⟨_,(zad (zbK PassesOwn.never rfl (za0 (K:=K) rfl (zaM (zah (K:=K) rfl) (zay (K:=K) rfl (pv 0)) (zap (op_sub) (pv 1) zab) (fun _ _=>rfl))) (zaC (i:=3) sc_Attempt_find_reader.nd rfl (Or.inl rfl))
   (zad (zaY (zfo (zja (zkD (zdW hr) (pv 3) (pv 2))) (zdx (zas (zh0 (K:=K) rfl (zdW hr)) (pv 3) (zaM (zah (K:=K) rfl) (zay (K:=K) rfl (pv 0)) (zap (op_sub) (pv 1) zab) (fun _ _=>rfl)) (by with_unfolding_all rfl)))).pt
   (zae ps_continue) pss_nil)
   (zad (zhq (zdW hr) (pv 2) (pv 3) zb4 rfl)
   (zae (zaY (zaJ (K:=K) rfl (zaQ (pv 0) T.cl_Attempt T.me_Attempt_free_reading G_Attempt_free_reading (hr.mono (by first | decide | exact Nat.le_refl _)) T.b_Attempt_free_reading .nil zaN (zaa (pv 3) (zaa (pv 2) pa_nil))) (fun _=>rfl))
   (zad (zaE (zdh (K:=K) rfl PySem.F.plainAttrs_list PySem.F.slot_list_append PySem.F.type_list_append mt_append (zaM (zah (K:=K) rfl) (zay (K:=K) rfl (pv 0)) (zap (op_sub) (pv 1) zab) (fun _ _=>rfl)) (zaa (pv 3) pa_nil)))
   (zae (zan zb4))) pss_nil)))))
   (zae (zan zb4))),?_⟩
  obtain ⟨_,dd,p,D,al,gv,lim,sp,ks,rfl,A,hD,Vd,hk,hn,hm,h10,p1,p2,q1,q2⟩:=h;have hcl:=T.cl_Attempt;have hnA:=T.n_Attempt_allowed;have hnG:=T.n_Attempt_given;obtain ⟨dx,hob⟩:=A.ob;have fA:=zlu dd.A dd.G dd.S;have fG:=zjp dd.A dd.G dd.S;have fM:=zfQ dd.A dd.G dd.S (m:="free_reading") (by decide +kernel) (by decide +kernel) (by decide +kernel);have lga:=Vd.lg;have lg:=A.lg;have la:=A.la;have hA:=A.ha;have hpl:(p-1).toNat < gv.length:=by omega
  symm;generalize ep:(p-1).toNat=pn at *;obtain ⟨hrow,hnm1,hnm2⟩:=A.ra pn (by omega);refine zbq (SqL.of hrow) ?_;refine zcJ (xs:=(al.getD pn []).map V.int) (fun i σ H'=>∃ ls v,σ=[some (.ref dd.x),some (.int p),some (.ref D),v]∧Frm dd D H H'∧Att t.C_Attempt H' dd al gv sp∧H' D=some (.dK (kvT ls))∧KsOk lim ls∧Cls2 al gv sp ks ls∧∀ j,j < i→(al.getD pn []).getD j 0∈ls∨(al.getD pn []).getD j 0∈gv.getD pn []) ⟨ks,none,rfl,Frm.refl,A,hD,hk,Cls2.refl,fun q hq=>absurd hq (by omega)⟩ ?_ ?_ ?_
  ·rintro i σ H' _ ⟨ls,v,rfl,F',A',_⟩;exact SqL.of (A'.ra pn (by omega)).1
  ·rintro i x σ H' hx ⟨ls,v,rfl,F',A',hD',hk',C',hc⟩;obtain ⟨hi,rfl⟩:=zc8 hx;have hxm:(al.getD pn []).getD i 0∈al.getD pn []:=getD_mem hi;generalize hxe:(al.getD pn []).getD i 0=x at *;obtain ⟨dx',hob'⟩:=A'.ob;have hG':=A'.hg;have hgr:=A'.rg pn hpl;have hxr:=Vd.ar pn (by omega) x hxm;symm;refine ziS hD' ?_;symm;have done:∀ ls2,Cls2 al gv sp ls ls2→(x∈ls2∨x∈gv.getD pn [])→∀ j,j < i+1→(al.getD pn []).getD j 0∈ls2∨(al.getD pn []).getD j 0∈gv.getD pn []:=fun ls2 C2 h j hj=>by
    by_cases e:j=i
    ·subst e;rw [hxe];exact h
    ·exact (hc j (by omega)).elim (fun z=>.inl (C2.1 _ z)) .inr
   by_cases h1:x∈ls
   ·rw [decide_eq_true h1];refine iteT ?_;walk_at "rdk";exact ⟨ls,_,rfl,F',A',hD',hk',C',done ls Cls2.refl (.inl h1)⟩
   rw [decide_eq_false h1];refine iteF ?_;symm;rw [ep];symm
   by_cases h2:x∈gv.getD pn []
   ·rw [decide_eq_true h2];refine iteT ?_;symm;exact ⟨ls,_,rfl,F',A',hD',hk',C',done ls Cls2.refl (.inr h2)⟩
   rw [decide_eq_false h2];refine iteF ?_;have hk1:=hk'.push h1 hxr;have hl1:=zls hk1.1 hk1.2;rw [length_append,length_singleton] at hl1;have hsub:=List.Nodup.length_le_of_subset hk.1 (fun z hz=>C'.1 z hz:ks ⊆ ls);symm;refine zhQ hD' (by omega) h1 fun H1 b1 e1=>?_;have A1:=A'.keep hD' b1;obtain ⟨dx1,hob1⟩:=A1.ob;symm;refine zau hob1 fM ?_;symm;obtain ⟨d',rfl⟩:∃ d',d=d'+1:=⟨d-1,by omega⟩
   rw [zfR];refine zlw (n:=d') (r:=x) A1 e1 Vd hk1 (by rw [length_append,length_singleton];omega) hm h10 (by simp) (fun H2 gv2 sp2 F2 A2 N2=>?_) (fun H2 ls2 F2 A2 hD2 hk2 C2 hz2 hc2=>?_)
   ·symm;refine iteT ?_;obtain ⟨dx2,hob2⟩:=A2.ob;have hG2:=A2.hg;have lg2:=N2.lg;have hrow2:=A2.rg pn (by omega);have N3:=N2.found hpl hxm h2 h1;have hlen:(gv2.getD pn []).length≤8:=by
     have:=zls (N2.v.nd pn (by omega)) fun r hr=>N2.v.ar pn (by omega) r (N2.v.sub pn (by omega) r hr);omega
    symm;rw [ep];symm;refine zbg hrow2 (by rw [length_map];omega) fun H3 b3 e3=>?_;symm;refine q1 H3 _ sp2 (((F'.trans (Frm.but b1 (.inr (.inr rfl)))).trans F2).trans (Frm.but b3 (.inl (getD_mem (by omega))))) (A2.setRow (row:=gv2.getD pn []++[x]) (by omega) b3 (by rw [e3,map_append];rfl)) ⟨N3.v,N3.lg,N3.len,fun z hz=>N3.old z (C'.1 z hz)⟩
   ·symm;refine iteF ?_;symm;have C3:=C2.one hz2 hc2;exact ⟨ls2,_,rfl,(F'.trans (Frm.but b1 (.inr (.inr rfl)))).trans F2,A2,hD2,hk2,C'.trans C3,done ls2 C3 (.inl (C2.1 x (by simp)))⟩
  ·rintro σ H' ⟨ls,v,rfl,F',A',hD',hk',C',hc⟩;symm;refine q2 H' ls F' A' hD' hk' C' fun r hr=>?_;obtain ⟨j,hj,rfl⟩:=mem_getD (d:=0) hr;exact hc j (by rw [length_map];exact hj)
theorem zif (T:Txt K mg t):∀ n:Nat,FnOk P w K mg base CX0 (2 * n+1) t.f_Attempt_find_reader t.d_Attempt_find_reader ["self","paper","asked"] (zaI K t.C_Attempt n)∧FnOk P w K mg base CX0 (2 * n+2) t.f_Attempt_free_reading t.d_Attempt_free_reading ["self","reader","asked"] (zaH K t.C_Attempt n)
 | 0=>by
   have G0:FnOk P w K mg base CX0 0 t.f_Attempt_free_reading t.d_Attempt_free_reading ["self","reader","asked"] (zie K t.C_Attempt 0):=⟨fun _ _ _ _ z=>z.elim,fun _ _ _ _ _ _ _ _ _ _ _ _ _ z=>z.elim⟩
   have G1:=zbm T 0 0 G0;exact ⟨G1,zbb T 1 0 G1⟩
 | n+1=>by
   have G0:=(zif T n).2;have G1:=zbm T (2 * n+2) (n+1) G0;exact ⟨G1,zbb T (2 * n+3) (n+1) G1⟩
theorem zci (T:Txt K mg t):FnOk P w K mg base CX0 17 t.f_Attempt_find_reader t.d_Attempt_find_reader ["self","paper","asked"] (zaI K t.C_Attempt 8):=(zif T 8).1
theorem zgo {hs:List Int} {rs:LI} {q r:Nat} (hr:r < rs.length):((r:Int)+1∈zaf hs rs (1+(q:Int)))↔za6 hs rs q r=true:=by
 unfold zaf;have e:(1+(q:Int)-1).toNat=q:=by omega
 constructor
 ·intro h;obtain ⟨i,hi,ei⟩:=mem_map.mp h;have:i=r:=by omega
  subst this;have:=(mem_filter.mp hi).2;unfold mayB at this;rw [e] at this;exact this
 ·intro h;refine mem_map.mpr ⟨r,mem_filter.mpr ⟨mem_range.mpr hr,?_⟩,by omega⟩;unfold mayB;rw [e];exact h
theorem zjr {hs:List Int} {rs:LI} {k x:Int} (h:x∈zaf hs rs k):1≤x∧x≤rs.length:=by
 unfold zaf at h;obtain ⟨i,hi,rfl⟩:=mem_map.mp h;have:=mem_range.mp (mem_filter.mp hi).1;omega
theorem cnt_nil (n:Nat) (x:Int):cntB ((List.range n).map fun _=>([]:List Int)) x=0:=by
 unfold cntB;rw [List.length_eq_zero_iff,List.filter_eq_nil_iff];intro a ha;obtain ⟨_,_,rfl⟩:=mem_map.mp ha;simp
theorem zig {hs:List Int} {rs:LI} (B:InB hs rs):Vld ((List.range hs.length).map fun i:Nat=>zaf hs rs (1+(i:Int))) ((List.range hs.length).map fun _=>[]) ((List.range rs.length).map fun i=>(rs.getD i []).getD 1 0) ((List.range rs.length).map fun i=>(rs.getD i []).getD 1 0) 0:=by
 refine ⟨by simp,rfl,fun q hq=>?_,fun q hq r hr=>?_,fun q hq r hr=>?_,fun r hr=>?_,fun r hr=>?_⟩
 ·rw [length_map,length_range] at hq;rw [zaw hq];exact nodup_nil
 ·rw [length_map,length_range] at hq;rw [zaw hq] at hr
  cases hr
 ·rw [length_map,length_range] at hq;rw [zaw hq] at hr;rw [length_map,length_range];exact zjr hr
 ·rw [length_map,length_range] at hr;rw [zaw hr];exact (B.rl r hr).1
 ·rw [length_map,length_range] at hr;rw [zaw hr,cnt_nil,if_neg (by omega)];simp
def zbY (K:PySem.W.Frag):Sp:=fun vs H Q _=>vs.length=2∧∃ (a b:Addr) (hs:List Int) (rs:LI),vs=[.ref a,.ref b]∧SqL K H a (hs.map V.int)∧LL K H b rs∧InB hs rs∧((∃ rows,zaR hs rs rows=true)→∀ H',Same H H'→Q (.bl true) H')∧((∀ rows,zaR hs rs rows=false)→∀ H',Same H H'→Q (.bl false) H')
theorem zc6 (T:Txt K mg t):FnOk P w K mg base CX0 18 t.f_3 t.d_3 ["papers","readers"] (zbY K):=by
 have G_Attempt___init__:=zcN (P:=P) (w:=w) (base:=base) T;have G_Attempt_find_reader:=zci (P:=P) (w:=w) (base:=base) T;refine T.F_3.ok sc_3 (fun _ _ _ _ h=>h.1) fun cdv A outer s H vs Q E hr h=>by
  refine ⟨_,(zad (zaU (i:=2) sc_3.nd rfl (Or.inl rfl) (zjD T.mk_Attempt G_Attempt___init__ (hr.mono (by decide)) (by rfl) T.mg_Attempt T.b_Attempt___init__ .nil zaN (zaa (pv 0) (zaa (pv 1) pa_nil))))
   (zad (zbK PassesOwn.never rfl (zcP (by rfl) T.z_range (zaa zab (zaa (zap (op_addG) (zaj (zaq (K:=K) rfl) (by rfl) T.z_len (by rfl) (zaa (pv 0) pa_nil)) zab) pa_nil))) (zaC (i:=3) sc_3.nd rfl (Or.inl rfl))
   (zae (zbK PassesOwn.never rfl (zbJ (by rfl) T.z_range (zaa (zbv (v:=.int 2) (by rfl) T.v_READERS_EACH T.w_READERS_EACH) pa_nil)) (zaC (i:=4) sc_3.nd rfl (Or.inl rfl))
   (zae (zaY (zdg (zaJ (K:=K) rfl (zaQ (pv 2) T.cl_Attempt T.me_Attempt_find_reader G_Attempt_find_reader (hr.mono (by first | decide | exact Nat.le_refl _)) T.b_Attempt_find_reader .nil zaN (zaa (pv 3) (zaa pe_dnewK pa_nil))) (fun _=>rfl)))
   (zae (zan zb4)) pss_nil)))))
   (zae (zan zb4)))),?_⟩
  obtain ⟨_,a,b,hs,rs,rfl,ha,L,B,q1,q2⟩:=h;have B1:=B.lp;have B2:=B.lr;have h0:∀ i,i < rs.length→0≤(rs.getD i []).getD 1 0:=fun i hi=>(B.rl i hi).1;symm;refine zeV fun x dx H1 fx fdx ne s1 ex=>?_;refine zlv ex (s1.seq ha) (L.same s1) B fun d H2 hdx k2 fg fS A2=>⟨rfl,?_⟩
  have V0:=zig B;have hal:∀ q,q < hs.length→((List.range hs.length).map fun i:Nat=>zaf hs rs (1+(i:Int))).getD q []=zaf hs rs (1+(q:Int)):=fun q hq=>zaw hq;have hgl:∀ q,q < hs.length→(((List.range hs.length).map fun _=>([]:List Int)).getD q []).length=0:=fun q hq=>by rw [zaw hq];rfl
  have hll:((List.range rs.length).map fun i=>(rs.getD i []).getD 1 0).length=rs.length:=by rw [length_map,length_range]
  have hlg:∀ r,r < rs.length→((List.range rs.length).map fun i=>(rs.getD i []).getD 1 0).getD r 0=(rs.getD r []).getD 1 0:=fun r hr=>zaw hr;have hla:((List.range hs.length).map fun i:Nat=>zaf hs rs (1+(i:Int))).length=hs.length:=by rw [length_map,length_range]
  generalize (List.range hs.length).map (fun i:Nat=>zaf hs rs (1+(i:Int)))=al at *;generalize eg0:(List.range hs.length).map (fun _=>([]:List Int))=gv0 at *;have hlg0:gv0.length=hs.length:=by rw [← eg0,length_map,length_range]
  generalize (List.range rs.length).map (fun i=>(rs.getD i []).getD 1 0)=lim at *;have S2:Same H H2:=fun c o e=>k2 c o (s1 c o e) (fun z=>by rw [z,fx] at e;cases e);have fg':∀ g∈d.gps,H g=none:=fun g hg=>s1.free (fg g hg);have fS':H d.S=none:=s1.free fS;have frame:∀ {D:Addr} {H3 H4:Hp},Same H H3→H D=none→Frm d D H3 H4→Same H H4:=fun {D H3 H4} s f F c o e=>F c o (s c o e) (fun z=>by rw [fg' c z] at e;cases e) (fun z=>by rw [z,fS'] at e;cases e) (fun z=>by rw [z,f] at e;cases e);have ha2:=S2.seq ha;have hcl:=T.cl_Attempt;have fM:=zfQ d.A d.G d.S (m:="find_reader") (by decide +kernel) (by decide +kernel) (by decide +kernel);subst hdx;symm;refine zf6 ⟨by omega,by omega,by omega,by omega⟩ ?_;have en:((hs.length:Int)+1-1).toNat=hs.length:=by omega
  rw [en];refine zdD (fun i σ H'=>∃ gv sp v w,σ=[some (.ref a),some (.ref b),some (.ref d.x),v,w]∧Same H H'∧Att t.C_Attempt H' d al gv sp∧Vld al gv lim sp 0∧∀ q,q < hs.length→(gv.getD q []).length=if q < i then 2 else 0) ⟨gv0,lim,none,none,rfl,S2,A2,V0,fun q hq=>by rw [hgl q hq,if_neg (by omega)]⟩ ?_ ?_
  ·rintro i σ H' hi ⟨gv,sp,v,w',rfl,S',A',V',hlen⟩;symm;refine zdC (by decide) (by decide) ?_;refine zdD (fun j σ H'=>∃ gv sp w,σ=[some (.ref a),some (.ref b),some (.ref d.x),some (.int (1+(i:Int))),w]∧Same H H'∧Att t.C_Attempt H' d al gv sp∧Vld al gv lim sp 0∧∀ q,q < hs.length→(gv.getD q []).length=if q < i then 2 else if q=i then j else 0) ⟨gv,sp,w',rfl,S',A',V',fun q hq=>by
    rw [hlen q hq]
    by_cases e:q < i
    ·rw [if_pos e,if_pos e]
    ·rw [if_neg e,if_neg e];split <;> rfl⟩ ?_ ?_
   ·rintro j σ H3 hj ⟨gv3,sp3,w3,rfl,S3,A3,V3,hlen3⟩;have hj:j < 2:=hj;obtain ⟨dx3,hob3⟩:=A3.ob;have lg3:=V3.lg;symm;refine zau hob3 fM ?_;symm;refine zeW fun D H4 f4 s4 e4=>?_;symm;have ei:(1+(i:Int)-1).toNat=i:=by omega
    refine zjq (n:=8) (A3.same s4) e4 V3 ⟨nodup_nil,fun k hk=>by cases hk⟩ (by rw [length_nil];omega) (by omega) (by omega) (by omega) (by omega) (fun H5 gv5 sp5 F5 A5 N5=>?_) (fun H5 ls F5 A5 hD5 hk5 C5 hc5=>?_)
    ·rw [ei] at N5;symm;refine iteF ?_;symm;refine ⟨gv5,sp5,_,rfl,frame (S3.trans s4) (S3.free f4) F5,A5,N5.v,fun q hq=>?_⟩;rw [N5.len q (by omega),hlen3 q hq]
     by_cases e1:q < i
     ·rw [if_pos e1,if_pos e1,if_neg (by omega)]
     ·rw [if_neg e1,if_neg e1]
      by_cases e2:q=i
      ·rw [if_pos e2,if_pos e2,if_pos e2]
      ·rw [if_neg e2,if_neg e2,if_neg e2]
    ·rw [ei] at hc5;symm;refine iteT ?_;symm;refine q2 ?_ _ (frame (S3.trans s4) (S3.free f4) F5);refine zhM (p:=i) h0 V3 hla hll hlg (fun q hq r hr hallow=>by rw [hal q hq];exact (zgo hr).mpr hallow) (fun q hq=>?_) hi ?_ C5 hc5
     ·rw [hlen3 q hq];split
      ·omega
      ·split <;> omega
     ·rw [hlen3 i hi,if_neg (by omega),if_pos rfl];exact hj
   ·rintro σ H3 ⟨gv3,sp3,w3,rfl,S3,A3,V3,hlen3⟩;refine ⟨gv3,sp3,_,_,rfl,S3,A3,V3,fun q hq=>?_⟩;rw [hlen3 q hq]
    by_cases e1:q < i
    ·rw [if_pos e1,if_pos (by omega)]
    ·rw [if_neg e1]
     by_cases e2:q=i
     ·rw [if_pos e2,if_pos (by omega)];rfl
     ·rw [if_neg e2,if_neg (by omega)]
  ·rintro σ H' ⟨gv,sp,v,w',rfl,S',A',V',hlen⟩;symm;refine q1 ?_ _ S';refine ziP h0 V' hla hll hlg (fun q hq r hr hm=>by rw [hal q hq] at hm;exact (zgo hr).mp hm) fun q hq=>?_;rw [hlen q hq,if_pos hq]
theorem zde {H:Hp} {Q:VK} {E:XK} {a b:Addr} {hs:List Int} {rs:LI} (h2:SqL K H a (hs.map V.int)) (h3:LL K H b rs) (B:InB hs rs) (q1:(∃ rows,zaR hs rs rows=true)→∀ H',Same H H'→Q (.bl true) H') (q2:(∀ rows,zaR hs rs rows=false)→∀ H',Same H H'→Q (.bl false) H'):zbY K [.ref a,.ref b] H Q E:=⟨rfl,a,b,hs,rs,rfl,h2,h3,B,q1,q2⟩
def zcG (K:PySem.W.Frag):Sp:=fun vs H Q _=>vs.length=2∧∃ (a b:Addr) (rs:LI) (ls:List Int),vs=[.ref a,.ref b]∧LL K H a rs∧SqL K H b (ls.map V.int)∧ls.length=rs.length∧rs.length≤8∧(∀ i,i < rs.length→(rs.getD i []).length=2)∧∀ p H',zaL H p (zeX rs ls) H'→Q (.ref p) H'
theorem zd0 (T:Txt K mg t):FnOk P w K mg base CX0 1 t.f_14 t.d_14 ["readers","limits"] (zcG K):=by
 refine T.F_14.ok sc_14 (fun _ _ _ _ h=>h.1) fun cdv A outer s H vs Q E hr h=>by
  refine ⟨_,(zae (zan (zbD (zaD (sc:=zac s_14) (XN:=["readers","limits"]) (N:=["row","limit"]) (own:=2) (js:=[]) rfl rfl (by decide +kernel)) rfl (zjR (K:=K) rfl (by rfl) T.z_zip (zaa (pv 0) (zaa (pv 1) pa_nil))) (fun _ _ _ _ _=>(zfx (K:=K) (n:=2) rfl rfl (zct (zaC (i:=0) (show List.Nodup [(Str.ofString "row"),(Str.ofString "limit")] by decide +kernel) rfl (Or.inl rfl)) (zct (zaC (i:=1) (show List.Nodup [(Str.ofString "row"),(Str.ofString "limit")] by decide +kernel) rfl (Or.inl rfl)) pgs_nil)))) (fun _ _ _ _ _=>zb0) (fun _ _ _ _ _=>(zax (zaa (zaM (zah (K:=K) rfl) (pv 0) zab (fun _ _=>rfl)) (zaa (pv 1) pa_nil))))))),?_⟩;obtain ⟨_,a,b,rs,ls,rfl,L,hb,hl,h8,r2,q⟩:=h;obtain ⟨ps,ha,hpl,hpr⟩:=id L;have en:(ps.map V.ref).length=rs.length:=by rw [length_map];exact hpl
  have em:(ls.map V.int).length=ls.length:=length_map ..;symm;refine zjS ha hb ?_;refine zdI (zcz.zip ha hb (by omega)) (by omega) (fun i=>[(rs.getD i []).getD 0 0,ls.getD i 0]) (fun i H' Q' hi s q'=>?_) fun p H' R=>?_
  ·have hi':i < rs.length:=by omega
   have ex:(ps.map V.ref).getD i .non=.ref (ps.getD i 0):=by
    rw [getD_eq_getElem?_getD,getElem?_map,getElem?_eq_getElem (by omega),getD_eq_getElem?_getD,getElem?_eq_getElem (by omega)];rfl
   have ey:(ls.map V.int).getD i .non=.int (ls.getD i 0):=by
    rw [getD_eq_getElem?_getD,getElem?_map,getElem?_eq_getElem (by omega),getD_eq_getElem?_getD,getElem?_eq_getElem (by omega)];rfl
   rw [ex,ey];have h2:=r2 i hi';have hrow:=s _ _ (hpr i hi');show (_:TE) (some (.ref (ps.getD i 0))::some (.int (ls.getD i 0))::_) _ _;symm;exact zai (by simp) q'
  rw [en] at R;exact q p H' R
theorem zez {H:Hp} {Q:VK} {E:XK} {a b:Addr} {rs:LI} {ls:List Int} (h:LL K H a rs) (hb:SqL K H b (ls.map V.int)) (hl:ls.length=rs.length) (h8:rs.length≤8) (r2:∀ i,i < rs.length→(rs.getD i []).length=2) (q:∀ p H',zaL H p (zeX rs ls) H'→Q (.ref p) H'):zcG K [.ref a,.ref b] H Q E:=⟨rfl,a,b,rs,ls,rfl,h,hb,hl,h8,r2,q⟩
def zdl (K:PySem.W.Frag):Sp:=fun vs H Q _=>vs.length=3∧∃ (a b c:Addr) (hs:List Int) (rs rows:LI),vs=[.ref a,.ref b,.ref c]∧SqL K H a (hs.map V.int)∧LL K H b rs∧LL K H c rows∧InB hs rs∧zb2 hs rs rows∧(Ext hs rs rows→∀ H',Same H H'→Q (.bl true) H')∧(¬Ext hs rs rows→∀ H',Same H H'→Q (.bl false) H')
theorem zfi (T:Txt K mg t):FnOk P w K mg base CX0 19 t.f_13 t.d_13 ["papers","readers","rows"] (zdl K):=by
 have G_7:=zc5 (P:=P) (w:=w) (base:=base) T;have G_3:=zc6 (P:=P) (w:=w) (base:=base) T;have G_14:=zd0 (P:=P) (w:=w) (base:=base) T;have G_8:=zca (P:=P) (w:=w) (base:=base) T;refine T.F_13.ok sc_13 (fun _ _ _ _ h=>h.1) fun cdv A outer s H vs Q E hr h=>by
  refine ⟨_,(zad (zaY (zdg (zaJ (K:=K) rfl (zar G_7 (hr.mono (by decide)) (by rfl) T.m_7 T.F_7.kp T.b_7 .nil zaN (zaa (pv 1) (zaa (pv 2) pa_nil))) (fun _=>rfl)))
   (zae (zan zb4)) pss_nil)
   (zae (zan (zar G_3 (hr.mono (by decide)) (by rfl) T.m_3 T.F_3.kp T.b_3 .nil zaN (zaa (zf0 (zf3 (K:=K) rfl) (pv 0) (zhc (zaj (zaq (K:=K) rfl) (by rfl) T.z_len (by rfl) (zaa (pv 2) pa_nil))) po_none) (zaa (zar G_14 (hr.mono (by decide)) (by rfl) T.m_14 T.F_14.kp T.b_14 .nil zaN (zaa (pv 1) (zaa (zar G_8 (hr.mono (by decide)) (by rfl) T.m_8 T.F_8.kp T.b_8 .nil zaN (zaa (pv 1) (zaa (pv 2) pa_nil))) pa_nil))) pa_nil)))))),?_⟩
  obtain ⟨_,a,b,c,hs,rs,rows,rfl,ha,L,L3,B,P,q1,q2⟩:=h;have B1:=B.lp;have B2:=B.lr;have pl:=P.1;have hg:=zk8 P;symm;refine zdd L L3 B2 (by omega) B.r2 fun H1 s1=>?_;symm
  cases ek:zfP rs rows with
  | false =>
    refine iteT ?_;symm;refine q2 (fun z=>?_) _ s1;have:=zfh.mpr (hg.mp z).1;rw [ek] at this
    cases this
  | true =>
    have hk:=zfh.mp ek;refine iteF ?_;obtain ⟨ps3,hc3,hl3,hr3⟩:=id (L3.same s1);symm;refine zd7 (s1.seq ha) fun p2 H2 f2 s2 e2=>?_;have el:(ps3.length:Int)=((rows.length:Nat):Int):=by omega
    rw [el,zeP,← map_drop] at e2;have s12:=s1.trans s2;symm;refine zcb (L.same s12) (L3.same s12) B2 (by omega) B.r2 fun p4 H4 f4 s4 e4=>?_;have s14:=s12.trans s4;have hll:(zco rs rows).length=rs.length:=by unfold zco;rw [length_map,length_range]
    symm;refine zez (L.same s14) (SqL.of e4) hll B2 B.r2 fun p5 H5 R5=>?_;have s15:=s14.trans R5.same;symm;refine zde (SqL.of (R5.same _ _ (s4 _ _ e2))) R5.ll (zk9 B hk rows.length) (fun h H6 s6=>q1 (hg.mpr ⟨hk,h⟩) _ (s15.trans s6)) (fun h H6 s6=>q2 (fun z=>?_) _ (s15.trans s6));obtain ⟨_,more,hm⟩:=hg.mp z;rw [h more] at hm
    cases hm
theorem zfS {H:Hp} {Q:VK} {E:XK} {a b c:Addr} {hs:List Int} {rs rows:LI} (h1:SqL K H a (hs.map V.int)) (h2:LL K H b rs) (h3:LL K H c rows) (B:InB hs rs) (P:zb2 hs rs rows) (q1:Ext hs rs rows→∀ H',Same H H'→Q (.bl true) H') (q2:¬Ext hs rs rows→∀ H',Same H H'→Q (.bl false) H'):zdl K [.ref a,.ref b,.ref c] H Q E:=⟨rfl,a,b,c,hs,rs,rows,rfl,h1,h2,h3,B,P,q1,q2⟩
theorem zlx (hs:List Int) (rs:LI) (k:Int):(zaf hs rs k).Pairwise (· < ·):=by
 unfold zaf;rw [pairwise_map];exact (List.pairwise_lt_range.filter _).imp fun h=>by omega
theorem zly (hs:List Int) (rs:LI) (k:Int):(zaf hs rs k).length≤rs.length:=by
 unfold zaf;rw [length_map];exact Nat.le_trans (length_filter_le _ _) (by simp)
theorem zi8 {hs:List Int} {rs:LI} {k:Nat} {x:Int}:x∈zaf hs rs ((k:Int)+1)↔1≤x∧x≤rs.length∧(rs.getD (x-1).toNat []).getD 0 0≠hs.getD k 0:=by
 have ek:(k:Int)+1=1+(k:Int):=Int.add_comm ..;rw [ek];constructor
 ·intro h;have hr:=zjr h;refine ⟨hr.1,hr.2,?_⟩;have e:x=(((x-1).toNat:Nat):Int)+1:=by omega
  rw [e,zgo (by omega)] at h;unfold za6 at h;simpa using h
 ·rintro ⟨h1,h2,h3⟩;have e:x=(((x-1).toNat:Nat):Int)+1:=by omega
  rw [e,zgo (by omega)];unfold za6;rw [decide_eq_false h3];rfl
theorem zdu {hs:List Int} {rs:LI} {k:Nat} {row:List Int}:row∈prsB (zaf hs rs ((k:Int)+1))↔zdo rs (hs.getD k 0) row=true:=by
 rw [prs_mem (zlx ..),zbB];constructor
 ·rintro ⟨x,y,rfl,hx,hy,hlt⟩;obtain ⟨x1,x2,x3⟩:=zi8.mp hx;obtain ⟨y1,y2,y3⟩:=zi8.mp hy;exact ⟨rfl,x1,hlt,y2,x3,y3⟩
 ·rintro ⟨h1,h2,h3,h4,h5,h6⟩;exact ⟨row.getD 0 0,row.getD 1 0,len2 h1,zi8.mpr ⟨h2,by omega,h5⟩,zi8.mpr ⟨by omega,h4,h6⟩,h3⟩
theorem zeh {hs:List Int} {rs rows:LI} {row:List Int} (P:zb2 hs rs rows) (hl:rows.length < hs.length) (h:zdo rs (hs.getD rows.length 0) row=true):zb2 hs rs (rows++[row]):=by
 refine ⟨by rw [length_append,length_singleton];omega,fun k hk=>?_⟩;rw [length_append,length_singleton] at hk
 by_cases e:k < rows.length
 ·rw [zaF e];exact P.2 k e
 ·have:k=rows.length:=by omega
  subst this;rw [zaG];exact h
theorem zgp {hs:List Int} {rs rows more:LI} (hl:rows.length < hs.length) (h:zaR hs rs (rows++more)=true):∃ r rest,more=r::rest∧zdo rs (hs.getD rows.length 0) r=true∧Ext hs rs (rows++[r]):=by
 obtain ⟨h1,h2,_⟩:=za3.mp h
 match more with
 | []=>rw [append_nil] at h1;omega
 | r::rest =>
   refine ⟨r,rest,rfl,?_,rest,by rw [List.append_assoc];exact h⟩;have:=h2 rows.length hl;rw [zb7 (Nat.le_refl _),Nat.sub_self] at this;exact this
theorem zgV {hs:List Int} {rs rows:LI} (hl:rows.length < hs.length) (h:∀ r∈prsB (zaf hs rs ((rows.length:Int)+1)),¬Ext hs rs (rows++[r])):¬Ext hs rs rows:=by
 rintro ⟨more,hm⟩;obtain ⟨r,rest,_,hp,hx⟩:=zgp hl hm;exact h r (zdu.mpr hp) hx
theorem zgW {hs:List Int} {rs rows:LI} {i:Nat} (P:zb2 hs rs rows) (hl:rows.length < hs.length) (hi:i < (prsB (zaf hs rs ((rows.length:Int)+1))).length)
  (h0:∀ j,j < i→¬Ext hs rs (rows++[(prsB (zaf hs rs ((rows.length:Int)+1))).getD j []])) (hn:∀ full,zaR hs rs full=true→nbB rows full=true):∀ full,zaR hs rs full=true→nbB (rows++[(prsB (zaf hs rs ((rows.length:Int)+1))).getD i []]) full=true:=by
 intro full hf;refine zgf (hn full hf) fun he hlt=>?_;obtain ⟨f1,f2,_⟩:=za3.mp hf;have ef:full=rows++full.drop rows.length:=by
  have e1:rows=full.take rows.length:=by
   refine zhv (by rw [length_take];omega) fun j hj=>?_;rw [zdH hj];obtain ⟨e0,e1⟩:=he j hj;have p1:=(zbB.mp (P.2 j hj)).1;have p2:=(zbB.mp (f2 j (by omega))).1;exact zla p1 p2 e0 e1
  conv=>rhs;arg 1;rw [e1]
  exact (List.take_append_drop _ _).symm
 rw [ef] at hf;obtain ⟨r,rest,er,hp,hx⟩:=zgp hl hf;have eg:full.getD rows.length []=r:=by
  rw [ef,zb7 (Nat.le_refl _),Nat.sub_self,er];rfl
 rw [eg];obtain ⟨j,hj,ej⟩:=mem_getD (d:=[]) (zdu.mpr hp);have hij:¬j < i:=fun z=>h0 j z (by rw [ej];exact hx)
 by_cases e:j=i
 ·subst e;rw [ej];exact .inr ⟨rfl,Int.le_refl _⟩
 ·have:=List.pairwise_iff_getElem.mp (prs_ord (zlx hs rs ((rows.length:Int)+1))) i j hi hj (by omega);rw [← ej,getD_eq_getElem?_getD,getElem?_eq_getElem hi,getD_eq_getElem?_getD,getElem?_eq_getElem hj];exact this
def zbP (K:PySem.W.Frag):Sp:=fun vs H Q _=>vs.length=3∧∃ (a b c:Addr) (hs:List Int) (rs rows:LI) (ps:List Addr),vs=[.ref a,.ref b,.ref c]∧SqL K H a (hs.map V.int)∧LL K H b rs∧H c=some (.lst (ps.map V.ref))∧ps.length=rows.length∧(∀ i,i < rows.length→H (ps.getD i 0)=some (.lst ((rows.getD i []).map V.int)))∧InB hs rs∧zb2 hs rs rows∧rows.length < hs.length ∧
 ((∀ r∈prsB (zaf hs rs ((rows.length:Int)+1)),¬Ext hs rs (rows++[r]))→∀ H',Same H H'→Q .non H') ∧
 ∀ i,i < (prsB (zaf hs rs ((rows.length:Int)+1))).length→Ext hs rs (rows++[(prsB (zaf hs rs ((rows.length:Int)+1))).getD i []])→(∀ j,j < i→¬Ext hs rs (rows++[(prsB (zaf hs rs ((rows.length:Int)+1))).getD j []])) →
  ∀ p H',H p=none→Same H H'→H' p=some (.lst (((prsB (zaf hs rs ((rows.length:Int)+1))).getD i []).map V.int))→Q (.ref p) H'
theorem zcO (T:Txt K mg t):FnOk P w K mg base CX0 20 t.f_11 t.d_11 ["papers","readers","rows"] (zbP K):=by
 have G_12:=zfO (P:=P) (w:=w) (base:=base) T;have G_2:=zb3 (P:=P) (w:=w) (base:=base) T;have G_13:=zfi (P:=P) (w:=w) (base:=base) T;refine T.F_11.ok sc_11 (fun _ _ _ _ h=>h.1) fun cdv A outer s H vs Q E hr h=>by
  refine ⟨_,(zad (zaU (i:=3) sc_11.nd rfl (Or.inl rfl) (zap (op_addG) (zaj (zaq (K:=K) rfl) (by rfl) T.z_len (by rfl) (zaa (pv 2) pa_nil)) zab))
   (zad (zbK PassesOwn.never rfl (za0 (K:=K) rfl (zar G_12 (hr.mono (by decide)) (by rfl) T.m_12 T.F_12.kp T.b_12 .nil zaN (zaa (zar G_2 (hr.mono (by decide)) (by rfl) T.m_2 T.F_2.kp T.b_2 .nil zaN (zaa (pv 0) (zaa (pv 1) (zaa (pv 3) pa_nil)))) pa_nil))) (zaC (i:=4) sc_11.nd rfl (Or.inl rfl))
   (zae (zaY (zaJ (K:=K) rfl (zar G_13 (hr.mono (by decide)) (by rfl) T.m_13 T.F_13.kp T.b_13 .nil zaN (zaa (pv 0) (zaa (pv 1) (zaa (zap (op_addG) (pv 2) (zax (zaa (pv 4) pa_nil))) pa_nil)))) (fun _=>rfl))
   (zae (zan (pv 4))) pss_nil)))
   (zae (zan zfV)))),?_⟩
  obtain ⟨_,a,b,c,hs,rs,rows,ps,rfl,ha,L,hc,hpl,hpr,B,P,hl,q0,q1⟩:=h;have B1:=B.lp;have B2:=B.lr;symm;refine zb9 ha L (by omega) (by omega) (by omega) B.r2 fun p1 H1 f1 s1 e1=>?_;have el:(ps.length:Int)+1=(rows.length:Int)+1:=by omega
  rw [el] at e1 ⊢;have hrl:=zly hs rs ((rows.length:Int)+1);symm;refine zgT (SqL.of e1) (by omega) fun p2 H2 R2=>?_;have hP:∀ r∈prsB (zaf hs rs ((rows.length:Int)+1)),zdo rs (hs.getD rows.length 0) r=true:=fun r hr=>zdu.mp hr;generalize prsB (zaf hs rs ((rows.length:Int)+1))=Pr at *;obtain ⟨s2,f2,ps2,e2,l2,nd2,r2⟩:=id R2;have s12:=s1.trans s2;refine zbq (SqL.of e2) ?_;refine zcJ (xs:=ps2.map V.ref) (fun i σ H'=>Same H2 H'∧(∃ v,σ=[some (.ref a),some (.ref b),some (.ref c),some (.int ((rows.length:Int)+1)),v])∧∀ j,j < i→¬Ext hs rs (rows++[Pr.getD j []])) ⟨Same.refl _,⟨none,rfl⟩,fun j hj=>absurd hj (by omega)⟩ ?_ ?_ ?_
  ·rintro i σ H' _ ⟨s,_,_⟩;exact SqL.of (s _ _ e2)
  ·rintro i x σ H' hx ⟨s,⟨v,rfl⟩,h0⟩;obtain ⟨hi,rfl⟩:=zhx hx;obtain ⟨g1,g2,g3⟩:=r2 i (by omega);have sH:=s12.trans s;have hc':=sH _ _ hc;have hrow:=s _ _ g1;have hpair:=hP _ (getD_mem (d:=[]) (show i < Pr.length by omega));symm;refine zai (by simp) fun p3 H3 f3 s3 e3=>?_;refine zeo (s3 _ _ hc') e3 (by rw [length_map];simp only [length_cons,length_nil];omega) fun p4 H4 f4 s4 e4=>?_;have s24:=s3.trans s4;have sH4:=sH.trans s24;symm;have L4:LL K H4 p4 (rows++[Pr.getD i []]):=LL.push (q:=ps2.getD i 0) e4 hpl (s24 _ _ hrow) fun j hj=>sH4 _ _ (hpr j hj);refine zfS (sH4.seq ha) (L.same sH4) L4 B (zeh P hl hpair) (fun hx H5 s5=>?_) (fun hx H5 s5=>?_)
   ·symm;refine iteT ?_;symm;exact q1 i (by omega) hx h0 _ _ (s1.free g2) (sH4.trans s5) (s5 _ _ (s24 _ _ hrow))
   ·symm;refine iteF ?_;symm;refine ⟨(s.trans s24).trans s5,⟨_,rfl⟩,fun j hj=>?_⟩
    by_cases e:j=i
    ·subst e;exact hx
    ·exact h0 j (by omega)
  ·rintro σ H' ⟨s,⟨v,rfl⟩,h0⟩;symm;refine q0 (fun r hr=>?_) _ (s12.trans s);obtain ⟨j,hj,rfl⟩:=mem_getD (d:=[]) hr;exact h0 j (by rw [length_map];omega)
theorem zc7 {H:Hp} {Q:VK} {E:XK} {a b c:Addr} {hs:List Int} {rs rows:LI} {ps:List Addr} (h1:SqL K H a (hs.map V.int)) (h2:LL K H b rs) (h3:H c=some (.lst (ps.map V.ref))) (h4:ps.length=rows.length) (h5:∀ i,i < rows.length→H (ps.getD i 0)=some (.lst ((rows.getD i []).map V.int))) (B:InB hs rs) (P:zb2 hs rs rows) (hl:rows.length < hs.length)
  (q0:(∀ r∈prsB (zaf hs rs ((rows.length:Int)+1)),¬Ext hs rs (rows++[r]))→∀ H',Same H H'→Q .non H')
  (q1:∀ i,i < (prsB (zaf hs rs ((rows.length:Int)+1))).length→Ext hs rs (rows++[(prsB (zaf hs rs ((rows.length:Int)+1))).getD i []])→(∀ j,j < i→¬Ext hs rs (rows++[(prsB (zaf hs rs ((rows.length:Int)+1))).getD j []])) →
   ∀ p H',H p=none→Same H H'→H' p=some (.lst (((prsB (zaf hs rs ((rows.length:Int)+1))).getD i []).map V.int))→Q (.ref p) H'):zbP K [.ref a,.ref b,.ref c] H Q E:=⟨rfl,a,b,c,hs,rs,rows,ps,rfl,h1,h2,h3,h4,h5,B,P,hl,q0,q1⟩
def zcf (K:PySem.W.Frag):Sp:=fun vs H Q _=>vs.length=2∧∃ (a b:Addr) (hs:List Int) (rs:LI),vs=[.ref a,.ref b]∧SqL K H a (hs.map V.int)∧LL K H b rs∧InB hs rs∧(za2 hs rs none→∀ H',Same H H'→Q .non H')∧∀ rows,za2 hs rs (some rows)→∀ p H',zaL H p rows H'→Q (.ref p) H'
theorem zdq (T:Txt K mg t):FnOk P w K mg base CX0 21 t.f_10 t.d_10 ["papers","readers"] (zcf K):=by
 have G_11:=zcO (P:=P) (w:=w) (base:=base) T;refine T.F_10.ok sc_10 (fun _ _ _ _ h=>h.1) fun cdv A outer s H vs Q E hr h=>by
  refine ⟨_,(zad (zaU (i:=2) sc_10.nd rfl (Or.inl rfl) (zax pa_nil))
   (zad (zil PassesOwn.never (zas (op_lt) (zaj (zaq (K:=K) rfl) (by rfl) T.z_len (by rfl) (zaa (pv 2) pa_nil)) (zaj (zaq (K:=K) rfl) (by rfl) T.z_len (by rfl) (zaa (pv 0) pa_nil)) (zaA _))
   (zad (zaU (i:=3) sc_10.nd rfl (Or.inl rfl) (zar G_11 (hr.mono (by decide)) (by rfl) T.m_11 T.F_11.kp T.b_11 .nil zaN (zaa (pv 0) (zaa (pv 1) (zaa (pv 2) pa_nil)))))
   (zad (zaY (zas (op_isNN) (pv 3) zfV (zaA _))
   (zae (zan zfV)) pss_nil)
   (zae (zaE (zdh (K:=K) rfl PySem.F.plainAttrs_list PySem.F.slot_list_append PySem.F.type_list_append mt_append (pv 2) (zaa (pv 3) pa_nil)))))))
   (zae (zan (pv 2))))),?_⟩
  obtain ⟨_,a,b,hs,rs,rfl,ha,L,B,q0,q1⟩:=h;have B1:=B.lp;symm;refine zai (by decide) fun p1 H1 f1 s1 e1=>?_;symm;refine ⟨fun n σ H'=>∃ rows v,σ=[some (.ref a),some (.ref b),some (.ref p1),v]∧zaL H p1 rows H'∧rows.length+n=hs.length∧zb2 hs rs rows∧(rows=[]∨Ext hs rs rows)∧∀ full,zaR hs rs full=true→nbB rows full=true,⟨hs.length,[],none,rfl,zaL.start f1 s1 e1,by simp,⟨by simp,fun k hk=>absurd hk (by simp)⟩,.inl rfl,fun full _=>rfl⟩,?_⟩;rintro n σ H' ⟨rows,v,rfl,R,hn,P,hx,hb⟩;obtain ⟨sR,fR,ps,eR,lR,ndR,rR⟩:=id R;have ha':=sR.seq ha;symm;refine zb1 (fun hlt=>?_) (fun hge=>?_)
  ·refine ⟨fun σ H''=>∃ rows v,σ=[some (.ref a),some (.ref b),some (.ref p1),v]∧zaL H p1 rows H''∧rows.length+(n-1)=hs.length∧zb2 hs rs rows∧(rows=[]∨Ext hs rs rows)∧∀ full,zaR hs rs full=true→nbB rows full=true,?_,?_⟩
   ·rintro σ' H'' ⟨rows',v',h1,h2,h3,h4⟩;exact ⟨n-1,by omega,rows',v',h1,h2,h3,h4⟩
   ·symm;refine zc7 ha' (L.same sR) eR lR (fun i hi=>(rR i hi).1) B P (by omega) (fun hno H2 s2=>?_) (fun i hi hxi h0 p2 H2 f2 s2 e2=>?_)
    ·symm;refine iteT ?_;symm;have hne:=zgV (by omega) hno;refine q0 (fun rows'=>?_) _ (sR.trans s2);rcases hx with hx | hx
     ·subst hx;rw [Bool.eq_false_iff];intro z;exact hne ⟨rows',z⟩
     ·exact absurd hx hne
    ·have hpair:=zdu.mp (getD_mem (d:=[]) hi);have hst:=zgW P (by omega) hi h0 hb;symm;refine iteF ?_;generalize (prsB (zaf hs rs ((rows.length:Int)+1))).getD i []=row at *;have eR2:=s2 _ _ eR;symm;refine zbg (s2 _ _ eR) (by rw [length_map];omega) fun H3 b3 e3=>?_;symm;exact ⟨rows++[row],_,rfl,R.push f2 s2 e2 (s2 _ _ eR) b3 e3,by rw [length_append,length_singleton];omega,zeh P (by omega) hpair,.inr hxi,hst⟩
  ·have hlen:rows.length=hs.length:=by omega
   symm;refine q1 rows ⟨?_,hb⟩ _ _ R;rcases hx with hx | ⟨more,hm⟩
   ·subst hx;refine za3.mpr ⟨hlen,fun k hk=>?_,fun k hk=>?_⟩
    ·rw [← hlen] at hk;simp at hk
    ·have:=(B.rl k hk).1;show ((0:Nat):Int)≤_;simpa using this
   ·have h1:=(za3.mp hm).1;rw [length_append] at h1;have:more=[]:=List.eq_nil_of_length_eq_zero (by omega);rw [this,append_nil] at hm;exact hm
theorem zdU {H:Hp} {a b:Addr} {hs:List Int} {rs:LI} {Q:VK} {E:XK} (h1:SqL K H a (hs.map V.int)) (h2:LL K H b rs) (h4:InB hs rs) (q0:za2 hs rs none→∀ H',Same H H'→Q .non H') (q1:∀ rows,za2 hs rs (some rows)→∀ p H',zaL H p rows H'→Q (.ref p) H'):zcf K [.ref a,.ref b] H Q E:=⟨rfl,a,b,hs,rs,rfl,h1,h2,h4,q0,q1⟩
def zcs (K:PySem.W.Frag) (C:Addr) (xa:XAd):Sp:=fun vs H Q E=>vs.length=1∧∃ (x:Addr) (F:Addr→Prop) (st:ExS),vs=[.ref x]∧ExAt C H x F st∧InB st.hs st.rs∧(st.dl.isSome=true→E (.ref xa.OutOfTime) none H)∧(st.dl=none→za2 st.hs st.rs none→∀ H',Same H H'→Q (.bl false) H')∧(st.dl=none→∀ rows,za2 st.hs st.rs (some rows)→∀ H' F',ExFr H H' F F'→ExAt C H' x F' { st with dl:=some (rows,[]) }→Q (.bl true) H')
theorem zdm (T:Txt K mg t):FnOk P w K mg base (CX1 P w) 22 t.f_24 t.d_24 ["self"] (zcs K t.C_Exam t.xa):=by
 have G_35:=zaz (P:=P) (w:=w) (base:=base) T;have G_10:=zdq (P:=P) (w:=w) (base:=base) T;refine T.F_24.okX sc_24 (fun _ _ _ _ h=>h.1) fun cdv A outer s H vs Q E hr h=>by
  refine ⟨_,(zad (zaE (zbQ (pv 0) T.cl_Exam T.me_35 G_35 (hr.mono (by decide)) T.b_35 .nil passX))
   (zad (zaU (i:=1) sc_24.nd rfl (Or.inl rfl) (zar G_10 (hr.mono (by decide)) (by rfl) T.m_10 T.F_10.kp T.b_10 .nil zaN (zaa (zay (K:=K) rfl (pv 0)) (zaa (zay (K:=K) rfl (pv 0)) pa_nil))))
   (zad (zaY (zas (op_isNN) (pv 1) zfV (zaA _))
   (zae (zan zb4)) pss_nil)
   (zad (zbx (K:=K) rfl (pv 0) zb4)
   (zad (zbx (K:=K) rfl (pv 0) (pv 1))
   (zad (zbx (K:=K) rfl (pv 0) (zbD (zaD (sc:=zac s_24) (XN:=["self","rows"]) (N:=["row"]) (own:=1) (js:=[]) rfl rfl (by decide +kernel)) rfl (za0 (K:=K) rfl (pv 1)) (fun _ _ _ _ _=>(zaC (i:=0) (show List.Nodup [(Str.ofString "row")] by decide +kernel) rfl (Or.inl rfl))) (fun _ _ _ _ _=>zb0) (fun _ _ _ _ _=>pe_dnewK)))
   (zae (zan zb4)))))))),?_⟩
  obtain ⟨_,x,F,st,rfl,E0,BB,qe,q0,q1⟩:=h;have B1:=BB.lp;have B2:=BB.lr;have E0':=E0;walk_at "hd";have L:LL K H e.b st.rs:=⟨e.ps,SqL.of hhb,I.lp,I.rp⟩
  symm;refine zaP E0' (fun hd=>?_) qe;have q0:=q0 hd;have q1:=q1 hd;symm;refine zdU (SqL.of hha) L BB (fun F0 H1 s1=>?_) (fun rows F1 p H1 R1=>?_)
  ·symm;rw [decide_eq_true (rfl:V.non=V.non)];refine iteT ?_;symm;exact q0 F0 H1 s1
  ·have hrt:zaR st.hs st.rs rows=true:=F1.1;have hrl:=(za3.mp hrt).1;obtain ⟨psr,hpr,hlr,_⟩:=R1.rows;symm;rw [decide_eq_false (show ¬V.ref p=V.non by intro z;cases z)];refine iteF ?_;have x1:=R1.same _ _ hob;have xp:p≠e.x:=(zag hob R1.new).symm;symm;refine zaS x1 hcl nD (show 6 < 1000 by decide) fun H2 b2 x2=>?_;rw [exFs_pd] at x2;symm;refine zaS x2 hcl nC (show 6 < 1000 by decide) fun H3 b3 x3=>?_;rw [exFs_pc] at x3;have hp3:H3 p=some (.lst (psr.map V.ref)):=by rw [b3 _ xp,b2 _ xp];exact hpr
   symm;refine zbq (SqL.of hp3) ?_;refine zdt (zgJ (zcz.one (zbL (SqL.of hp3))) (by rw [length_map];omega) rfl fun d ds H4 f4 s4 e4 l4 nd4 hd4=>?_);rw [length_map,hlr] at l4;rw [length_map,hlr] at hd4;have x4:=s4 _ _ x3;symm;refine zaS x4 hcl nE (show 6 < 1000 by decide) fun H5 b5 x5=>?_;rw [exFs_pe] at x5;have xd:d≠e.x:=(zag x3 f4).symm;have kk:∀ b o,H1 b=some o→b≠e.x→H5 b=some o:=fun b o eb nb=>by
    rw [b5 _ nb];refine s4 _ _ ?_;rw [b3 _ nb,b2 _ nb];exact eb
   have n1:∀ b,H3 b=none→H1 b=none:=fun b eb=>by
    cases h1:H1 b with
    | none=>rfl
    | some o =>
      by_cases nb:b=e.x
      ·rw [nb,x3] at eb;cases eb
      ·rw [b3 _ nb,b2 _ nb,h1] at eb;cases eb
   have nx4:∀ i,i < rows.length→ds.getD i 0≠e.x:=fun i hi z=>by have:=(hd4 i hi).2.1;rw [z,x3] at this;cases this
   obtain ⟨e',hx',I',fp'⟩:=I.deal (H5:=H5) (p:=p) (q:=d) (rows:=rows) (ds:=ds) hrt R1 kk x5 (by rw [b5 _ xd];exact e4) (n1 _ f4) l4 nd4 (fun i hi=>⟨by rw [b5 _ (nx4 i hi)];exact (hd4 i hi).1,n1 _ (hd4 i hi).2.1,(hd4 i hi).2.2⟩);symm;refine q1 rows F1 H5 _ ⟨fun b o eb nb=>?_,fun b z=>?_⟩ (hx'▸I'.at)
   ·exact kk b o (R1.same _ _ eb) (fun z=>nb ((hF _).mpr (by rw [z];exact own_x)))
   ·exact (fp' b z).imp (fun z=>(hF b).mpr z) id
theorem zfT {K:PySem.W.Frag} {xa:XAd} {C x:Addr} {H:Hp} {F:Addr→Prop} {st:ExS} {Q:VK} {E:XK} (h:ExAt C H x F st) (B:InB st.hs st.rs) (hd:st.dl=none) (q0:za2 st.hs st.rs none→∀ H',Same H H'→Q (.bl false) H') (q1:∀ rows,za2 st.hs st.rs (some rows)→∀ H' F',ExFr H H' F F'→ExAt C H' x F' { st with dl:=some (rows,[]) }→Q (.bl true) H'):zcs K C xa [.ref x] H Q E:=⟨rfl,x,F,st,rfl,h,B,fun z=>(by rw [hd] at z;cases z),fun _=>q0,fun _=>q1⟩
theorem zfU {K:PySem.W.Frag} {xa:XAd} {C x:Addr} {H:Hp} {F:Addr→Prop} {st:ExS} {Q:VK} {E:XK} (h:ExAt C H x F st) (B:InB st.hs st.rs) (qe:st.dl.isSome=true→E (.ref xa.OutOfTime) none H) (q0:st.dl=none→za2 st.hs st.rs none→∀ H',Same H H'→Q (.bl false) H') (q1:st.dl=none→∀ rows,za2 st.hs st.rs (some rows)→∀ H' F',ExFr H H' F F'→ExAt C H' x F' { st with dl:=some (rows,[]) }→Q (.bl true) H'):zcs K C xa [.ref x] H Q E:=⟨rfl,x,F,st,rfl,h,B,qe,q0,q1⟩
def zei (K:PySem.W.Frag):Sp:=fun vs H Q _=>vs.length=5∧∃ (kind cell cnt:Int) (dealt:Bool) (h:Addr) (hs:List Int),vs=[.int kind,.bl dealt,.int cell,.ref h,.int cnt]∧H h=some (.lst (hs.map V.int))∧∀ (o:Addr) H' (d:De),H o=none→Same H H'→H' o=some (.lst (d.row.map V.int))→(∀ st,Sit st dealt→st.hs.length=hs.length→(kind=0→d.why st=some .time)∧(kind=1→d.why st=some .unknown)∧(kind=3→d.why st=some .bounds))→Q (.ref o) H'
theorem zgX (T:Txt K mg t):FnOk P w K mg base CX0 1 t.f_50 t.d_50 ["_law_kind","_law_dealt","_law_cell","_law_homes","_law_count"] (zei K):=by
 refine T.F_50.ok sc_50 (fun _ _ _ _ h=>h.1) fun cdv A outer s H vs Q E hr h=>by
  refine ⟨_,(zad (zaY (zdf (zas (za4 (K:=K) rfl hr.units0) (pv 0) zab (zaA _)) (zcj (zaJ (K:=K) rfl (pv 1) (fun _=>rfl)))).pt
   (zae (zan (zaM (zah (K:=K) rfl) (by exact (zax (zaa (by exact (zax (zaa zab (zaa zab pa_nil)))) (zaa (by exact (zax (zaa zab (zaa zab (zaa zab pa_nil))))) (zaa (by exact (zax (zaa zab (zaa zab pa_nil)))) (zaa (by exact (zax (zaa zab pa_nil))) pa_nil)))))) (zap (op_mod) (pv 2) zab) (fun _ _=>rfl)))) pss_nil)
   (zad (zaY (zas (za4 (K:=K) rfl hr.units0) (pv 0) zab (zaA _))
   (zae (zan (by exact (zax (zaa zab (zaa zab (zaa zab (zaa zab pa_nil)))))))) pss_nil)
   (zad (zaY (zdf (zas (za4 (K:=K) rfl hr.units0) (pv 0) zab (zaA _)) (zcj (zaJ (K:=K) rfl (pv 1) (fun _=>rfl)))).pt
   (zae (zan (zaM (zah (K:=K) rfl) (by exact (zax (zaa (by exact (zax (zaa zab (zaa (zap (op_addG) (zap (op_addG) (zaj (zaq (K:=K) rfl) (by rfl) T.z_len (by rfl) (zaa (pv 3) pa_nil)) zab) (zap (op_mod) (zap (op_fdivB) (pv 2) zab) zab)) (zaa zab (zaa zab pa_nil)))))) (zaa (by exact (zax (zaa zab (zaa zab (zaa (zap (op_sub) zab (zap (op_mod) (zap (op_fdivB) (pv 2) zab) zab)) (zaa zab pa_nil)))))) pa_nil)))) (zap (op_mod) (pv 2) zab) (fun _ _=>rfl)))) pss_nil)
   (zad (zaY (zas (za4 (K:=K) rfl hr.units0) (pv 0) zab (zaA _))
   (zae (zan (zaM (zah (K:=K) rfl) (by exact (zax (zaa (by exact (zax (zaa zab (zaa (zap (op_addG) zab (zap (op_mod) (zap (op_fdivB) (pv 2) zab) zab)) pa_nil)))) (zaa (by exact (zax (zaa zab (zaa (zap (op_sub) (zap (op_sub) zab zab) (zap (op_mod) (zap (op_fdivB) (pv 2) zab) zab)) (zaa zab pa_nil))))) (zaa (by exact (zax (zaa zab (zaa zab pa_nil)))) pa_nil))))) (zap (op_mod) (pv 2) zab) (fun _ _=>rfl)))) pss_nil)
   (zad (zaY (zdf (zas (za4 (K:=K) rfl hr.units0) (pv 0) zab (zaA _)) (zcj (zaJ (K:=K) rfl (pv 1) (fun _=>rfl)))).pt
   (zae (zan (by exact (zax (zaa zab (zaa (zaj (zaq (K:=K) rfl) (by rfl) T.z_len (by rfl) (zaa (pv 3) pa_nil)) (zaa zab (zaa (zap (op_addG) (zaM (zah (K:=K) rfl) (by exact (zax (zaa zab (zaa (zks un_neg zab) pa_nil)))) (zap (op_mod) (pv 2) zab) (fun _ _=>rfl)) (zap (op_mod) (zap (op_fdivB) (pv 2) zab) zab)) pa_nil)))))))) pss_nil)
   (zae (zan (zaM (zah (K:=K) rfl) (by exact (zax (zaa (by exact (zax (zaa zab (zaa zab (zaa (zap (op_addG) zab (zap (op_mod) (zap (op_fdivB) (pv 2) zab) zab)) pa_nil))))) (zaa (by exact (zax (zaa zab (zaa (zap (op_sub) (zks un_neg zab) (zap (op_mod) (zap (op_fdivB) (pv 2) zab) zab)) pa_nil)))) (zaa (by exact (zax (zaa zab (zaa zab pa_nil)))) pa_nil))))) (zap (op_mod) (pv 2) zab) (fun _ _=>rfl))))))))),?_⟩
  obtain ⟨_,kind,cell,cnt,dealt,h,hs,rfl,eh,q⟩:=h
  by_cases k0:kind=0
  ·subst k0
   cases dealt with
   | true =>
     walk_at "rdk";refine zai (by decide) fun a1 H1 f1 s1 e1=>?_;symm;refine zai (by decide) fun a2 H2 f2 s2 e2=>?_;symm;refine zai (by decide) fun a3 H3 f3 s3 e3=>?_;symm;refine zai (by decide) fun a4 H4 f4 s4 e4=>?_;symm;refine zai (by simp) fun a5 H5 f5 s5 e5=>?_;symm;have fin:∀ (o:Addr) (d:De),H o=none→H5 o=some (.lst (d.row.map V.int))→(∀ k r p,d≠.enter k r p)→Q (.ref o) H5:=fun o d fo eo hd=>q o H5 d fo (s1.trans (s2.trans (s3.trans (s4.trans s5)))) eo fun st S _=>⟨fun _=>S.late d hd,fun z=>absurd z (by decide),fun z=>absurd z (by decide)⟩
     rcases (show cell % 4=0∨cell % 4=1∨cell % 4=2∨cell % 4=3 by omega) with z | z | z | z <;> rw [z]
     ·refine zcy (SqL.of e5) rfl ?_;symm;exact fin a1 (.paper 1) f1 (s5 _ _ (s4 _ _ (s3 _ _ (s2 _ _ e1)))) nofun
     ·refine zcy (SqL.of e5) rfl ?_;symm;exact fin a2 (.reader 0 3) (s1.free f2) (s5 _ _ (s4 _ _ (s3 _ _ e2))) nofun
     ·refine zcy (SqL.of e5) rfl ?_;symm;exact fin a3 (.step 5) ((s1.trans s2).free f3) (s5 _ _ (s4 _ _ e3)) nofun
     ·refine zcy (SqL.of e5) rfl ?_;symm;exact fin a4 .deal ((s1.trans (s2.trans s3)).free f4) (s5 _ _ e4) nofun
   | false =>
     walk_at "rdk";refine zai (by decide) fun a1 H1 f1 s1 e1=>?_;exact q a1 H1 (.enter 1 1 50) f1 s1 e1 fun st S _=>⟨fun _=>S.early,fun z=>absurd z (by decide),fun z=>absurd z (by decide)⟩
  by_cases k1:kind=1
  ·subst k1
   cases dealt with
   | true =>
     walk_at "rdk";refine zai (by simp) fun a1 H1 f1 s1 e1=>?_;symm;refine zai (by simp) fun a2 H2 f2 s2 e2=>?_;symm;refine zai (by simp) fun a5 H5 f5 s5 e5=>?_;symm;have fin:∀ (o:Addr) (k r:Int),H o=none→H5 o=some (.lst [.int 4,.int k,.int r,.int 7])→((hs.length:Int) < k∨r < 1)→Q (.ref o) H5:=fun o k r fo eo hd=>q o H5 (.enter k r 7) fo (s1.trans (s2.trans s5)) eo fun st S el=>⟨fun z=>absurd z (by decide),fun _=>S.unkE (by rw [el];exact hd),fun z=>absurd z (by decide)⟩
     rcases (show cell % 2=0∨cell % 2=1 by omega) with z | z <;> rw [z]
     ·refine zcy (SqL.of e5) rfl ?_;symm;exact fin a1 _ _ f1 (s5 _ _ (s2 _ _ e1)) (by omega)
     ·refine zcy (SqL.of e5) rfl ?_;symm;exact fin a2 _ _ (s1.free f2) (s5 _ _ e2) (by omega)
   | false =>
     walk_at "rdk";refine zai (by simp) fun a1 H1 f1 s1 e1=>?_;symm;refine zai (by simp) fun a2 H2 f2 s2 e2=>?_;symm;refine zai (by simp) fun a3 H3 f3 s3 e3=>?_;symm;refine zai (by simp) fun a5 H5 f5 s5 e5=>?_;symm;have fin:∀ (o:Addr) (d:De),H o=none→H5 o=some (.lst (d.row.map V.int))→(∀ st,Sit st false→d.why st=some .unknown)→Q (.ref o) H5:=fun o d fo eo hd=>q o H5 d fo (s1.trans (s2.trans (s3.trans s5))) eo fun st S _=>⟨fun z=>absurd z (by decide),fun _=>hd st S,fun z=>absurd z (by decide)⟩
     rcases (show cell % 3=0∨cell % 3=1∨cell % 3=2 by omega) with z | z | z <;> rw [z]
     ·refine zcy (SqL.of e5) rfl ?_;symm;exact fin a1 (.paper _) f1 (s5 _ _ (s3 _ _ (s2 _ _ e1))) fun st S=>S.unkP (by omega)
     ·refine zcy (SqL.of e5) rfl ?_;symm;exact fin a2 (.reader _ 7) (s1.free f2) (s5 _ _ (s3 _ _ e2)) fun st S=>S.unkR (by omega)
     ·refine zcy (SqL.of e5) rfl ?_;symm;exact fin a3 (.paper 0) ((s1.trans s2).free f3) (s5 _ _ e3) fun st S=>S.unkP (by omega)
  by_cases k3:kind=3∧dealt=true
  ·obtain ⟨rfl,rfl⟩:=k3;walk_at "rdk";refine zai (by decide) fun a1 H1 f1 s1 e1=>?_;have eh1:=s1 _ _ eh;symm;have fin:∀ (o:Addr) H2 (p:Int),H1 o=none→Same H1 H2→H2 o=some (.lst [.int 4,.int hs.length,.int 2,.int p])→(p < 0∨100 < p)→Q (.ref o) H2:=fun o H2 p fo s2 eo hd=>q o H2 (.enter hs.length 2 p) (s1.free fo) (s1.trans s2) eo fun st S el=>⟨fun z=>absurd z (by decide),fun z=>absurd z (by decide),fun _=>by rw [← el];exact S.bndE hd⟩
   rcases (show cell % 2=0∨cell % 2=1 by omega) with z | z <;> rw [z]
   ·refine zcy (SqL.of e1) rfl ?_;symm;refine zai (by simp) fun a2 H2 f2 s2 e2=>?_;exact fin a2 H2 _ f2 s2 e2 (by omega)
   ·refine zcy (SqL.of e1) rfl ?_;symm;refine zai (by simp) fun a2 H2 f2 s2 e2=>?_;exact fin a2 H2 _ f2 s2 e2 (by omega)
  walk_at "st";refine zbw (fun σ H'=>σ=[some (.int kind),some (.bl dealt),some (.int cell),some (.ref h),some (.int cnt)]∧H=H') ?_ ?_
  ·intro nx' hnx;walk_at "rdk";exact hnx _ _ ⟨rfl,rfl⟩
  rintro σ H' ⟨rfl,rfl⟩;refine zbw (fun σ H'=>σ=[some (.int kind),some (.bl dealt),some (.int cell),some (.ref h),some (.int cnt)]∧H=H') ?_ ?_
  ·intro nx' hnx;walk_at "rdk";exact hnx _ _ ⟨rfl,rfl⟩
  rintro σ H' ⟨rfl,rfl⟩;walk_at "st";refine zbw (fun σ H'=>σ=[some (.int kind),some (.bl dealt),some (.int cell),some (.ref h),some (.int cnt)]∧H=H') ?_ ?_
  ·intro nx' hnx;walk_at "rdk";exact hnx _ _ ⟨rfl,rfl⟩
  rintro σ H' ⟨rfl,rfl⟩;walk_at "st";refine zbw (fun σ H'=>σ=[some (.int kind),some (.bl dealt),some (.int cell),some (.ref h),some (.int cnt)]∧H=H') ?_ ?_
  ·intro nx' hnx;walk_at "rdk";exact hnx _ _ ⟨rfl,rfl⟩
  rintro σ H' ⟨rfl,rfl⟩;walk_at "st";refine zbw (fun σ H'=>σ=[some (.int kind),some (.bl dealt),some (.int cell),some (.ref h),some (.int cnt)]∧H=H') ?_ ?_
  ·intro nx' hnx;symm;refine zb1 (fun z=>?_) (fun z=>?_)
   ·have:dealt=false:=by
     cases dealt
     ·rfl
     ·exact absurd ⟨z,rfl⟩ k3
    subst this;walk_at "rdk";exact hnx _ _ ⟨rfl,rfl⟩
   ·walk_at "rdk";exact hnx _ _ ⟨rfl,rfl⟩
  rintro σ H' ⟨rfl,rfl⟩;symm;refine zai (by simp) fun a1 H1 f1 s1 e1=>?_;symm;refine zai (by simp) fun a2 H2 f2 s2 e2=>?_;symm;refine zai (by simp) fun a3 H3 f3 s3 e3=>?_;symm;refine zai (by simp) fun a5 H5 f5 s5 e5=>?_;symm;have fin:∀ (o:Addr) (d:De),H o=none→H5 o=some (.lst (d.row.map V.int))→(∀ st,Sit st false→d.why st=some .bounds)→Q (.ref o) H5:=fun o d fo eo hd=>q o H5 d fo (s1.trans (s2.trans (s3.trans s5))) eo fun st S _=>⟨fun z=>absurd z k0,fun z=>absurd z k1,fun z=>hd st (by
   cases dealt
   ·exact S
   ·exact absurd ⟨z,rfl⟩ k3)⟩
  rcases (show cell % 3=0∨cell % 3=1∨cell % 3=2 by omega) with z | z | z <;> rw [z]
  ·refine zcy (SqL.of e5) rfl ?_;symm;exact fin a1 (.reader 3 _) f1 (s5 _ _ (s3 _ _ (s2 _ _ e1))) fun st S=>S.bndR (by omega)
  ·refine zcy (SqL.of e5) rfl ?_;symm;exact fin a2 (.step _) (s1.free f2) (s5 _ _ (s3 _ _ e2)) fun st S=>S.bndS (by omega)
  ·refine zcy (SqL.of e5) rfl ?_;symm;exact fin a3 (.step 101) ((s1.trans s2).free f3) (s5 _ _ e3) fun st S=>S.bndS (by omega)
theorem zih {H:Hp} {kind cell cnt:Int} {dealt:Bool} {h:Addr} {hs:List Int} {Q:VK} {E:XK} (eh:H h=some (.lst (hs.map V.int))) (q:∀ (o:Addr) H' (d:De),H o=none→Same H H'→H' o=some (.lst (d.row.map V.int))→(∀ st,Sit st dealt→st.hs.length=hs.length→(kind=0→d.why st=some .time)∧(kind=1→d.why st=some .unknown)∧(kind=3→d.why st=some .bounds))→Q (.ref o) H'):zei K [.int kind,.bl dealt,.int cell,.ref h,.int cnt] H Q E:=⟨rfl,kind,cell,cnt,dealt,h,hs,rfl,eh,q⟩
def zfj (K:PySem.W.Frag) (C:Addr) (xa:XAd):Sp:=fun vs H Q E=>vs.length=2∧∃ (x o:Addr) (F:Addr→Prop) (st:ExS) (d:De) (f:Rf),vs=[.ref x,.ref o]∧H o=some (.lst (d.row.map V.int))∧ExAt C H x F st∧InB st.hs st.rs∧st.en.length≤900∧d.why st=some f∧∀ H',Same H H'→E (.ref (xa.at f)) none H'
theorem zii (T:Txt K mg t):FnOk P w K mg base (CX1 P w) 23 t.f_48 t.d_48 ["_law_exam_here","_law_todo"] (zfj K t.C_Exam t.xa):=by
 have G_21:=zbi (P:=P) (w:=w) (base:=base) T;have G_22:=za9 (P:=P) (w:=w) (base:=base) T;have G_23:=zce (P:=P) (w:=w) (base:=base) T;have G_24:=zdm (P:=P) (w:=w) (base:=base) T;have G_25:=zc4 (P:=P) (w:=w) (base:=base) T;refine T.F_48.okX sc_48 (fun _ _ _ _ h=>h.1) fun cdv A outer s H vs Q E hr h=>by
  refine ⟨_,(zad (zaY (zas (za4 (K:=K) rfl hr.units0) (zaM (zah (K:=K) rfl) (pv 1) zab (fun _ _=>rfl)) zab (zaA _))
   (zae (zan (zaQ (pv 0) T.cl_Exam T.me_21 G_21 (hr.mono (by decide)) T.b_21 .nil passX (zaa (zaM (zah (K:=K) rfl) (pv 1) zab (fun _ _=>rfl)) pa_nil)))) pss_nil)
   (zad (zaY (zas (za4 (K:=K) rfl hr.units0) (zaM (zah (K:=K) rfl) (pv 1) zab (fun _ _=>rfl)) zab (zaA _))
   (zae (zan (zaQ (pv 0) T.cl_Exam T.me_22 G_22 (hr.mono (by decide)) T.b_22 .nil passX (zaa (zaM (zah (K:=K) rfl) (pv 1) zab (fun _ _=>rfl)) (zaa (zaM (zah (K:=K) rfl) (pv 1) zab (fun _ _=>rfl)) pa_nil))))) pss_nil)
   (zad (zaY (zas (za4 (K:=K) rfl hr.units0) (zaM (zah (K:=K) rfl) (pv 1) zab (fun _ _=>rfl)) zab (zaA _))
   (zae (zan (zaQ (pv 0) T.cl_Exam T.me_23 G_23 (hr.mono (by decide)) T.b_23 .nil passX (zaa (zaM (zah (K:=K) rfl) (pv 1) zab (fun _ _=>rfl)) pa_nil)))) pss_nil)
   (zad (zaY (zas (za4 (K:=K) rfl hr.units0) (zaM (zah (K:=K) rfl) (pv 1) zab (fun _ _=>rfl)) zab (zaA _))
   (zae (zan (zbQ (pv 0) T.cl_Exam T.me_24 G_24 (hr.mono (by decide)) T.b_24 .nil passX))) pss_nil)
   (zae (zan (zaQ (pv 0) T.cl_Exam T.me_25 G_25 (hr.mono (by decide)) T.b_25 .nil passX (zaa (zaM (zah (K:=K) rfl) (pv 1) zab (fun _ _=>rfl)) (zaa (zaM (zah (K:=K) rfl) (pv 1) zab (fun _ _=>rfl)) (zaa (zaM (zah (K:=K) rfl) (pv 1) zab (fun _ _=>rfl)) pa_nil)))))))))),?_⟩
  obtain ⟨_,x,o,F,st,d,f,rfl,eo,E0,BB,h9,hw,q⟩:=h;obtain ⟨dx,fs,hob,hlk⟩:=E0.ob;have same0:Same H H:=fun _ _ z=>z
  cases d with
  | paper h =>
    have eo:H o=some (.lst [.int 0,.int h]):=eo;have hw:whyP st h=some f:=hw;walk_at "rdk";refine zau hob (hlk _ (by decide +kernel)) ?_;symm;refine zcX E0 BB (fun f' hf=>?_) (fun hn=>absurd hn (by rw [hw];simp));rw [hw] at hf;cases hf
    exact q H same0
  | reader h l =>
    have eo:H o=some (.lst [.int 1,.int h,.int l]):=eo;have hw:whyR st h l=some f:=hw;walk_at "rdk";refine zau hob (hlk _ (by decide +kernel)) ?_;symm;refine zcK E0 BB (fun f' hf=>?_) (fun hn=>absurd hn (by rw [hw];simp));rw [hw] at hf;cases hf
    exact q H same0
  | step s =>
    have eo:H o=some (.lst [.int 2,.int s]):=eo;have hw:whyS st s=some f:=hw;walk_at "rdk";refine zau hob (hlk _ (by decide +kernel)) ?_;symm;refine zdN E0 BB (fun f' hf=>?_) (fun hn=>absurd hn (by rw [hw];simp));rw [hw] at hf;cases hf
    exact q H same0
  | deal =>
    have eo:H o=some (.lst [.int 3]):=eo;have hw:whyD st=some f:=hw;walk_at "rdk";refine zau hob (hlk _ (by decide +kernel)) ?_;symm;refine zfU E0 BB (fun hd=>?_) (fun hd=>absurd hw (by rw [ze5 hd];simp)) (fun hd=>absurd hw (by rw [ze5 hd];simp));unfold whyD at hw;rw [if_pos hd] at hw;cases hw
    exact q H same0
  | enter k r p =>
    have eo:H o=some (.lst [.int 4,.int k,.int r,.int p]):=eo;have hw:whyE st k r p=some f:=hw;walk_at "rdk";refine zau hob (hlk _ (by decide +kernel)) ?_;symm;refine zff E0 BB h9 (fun f' hf H1 s1=>?_) (fun hn=>absurd hn (by rw [hw];simp));rw [hw] at hf;cases hf
    exact q H1 s1
theorem zi9 {xa:XAd} {C x o:Addr} {H:Hp} {F:Addr→Prop} {st:ExS} {d:De} {f:Rf} {Q:VK} {E:XK} (eo:H o=some (.lst (d.row.map V.int))) (h:ExAt C H x F st) (B:InB st.hs st.rs) (h9:st.en.length≤900) (hw:d.why st=some f) (q:∀ H',Same H H'→E (.ref (xa.at f)) none H'):zfj K C xa [.ref x,.ref o] H Q E:=⟨rfl,x,o,F,st,d,f,rfl,eo,h,B,h9,hw,q⟩
def zdn (K:PySem.W.Frag) (C:Addr):Sp:=fun vs H Q _=>vs.length=2∧∃ (x o:Addr) (F:Addr→Prop) (st:ExS) (d:De) (f:Rf),vs=[.ref x,.ref o]∧H o=some (.lst (d.row.map V.int))∧ExAt C H x F st∧InB st.hs st.rs∧st.en.length≤900∧d.why st=some f∧∀ p H',H p=none→Same H H'→H' p=some (.lst ((zcV f).map V.bl))→Q (.ref p) H'
theorem zfk (T:Txt K mg t):FnOk P w K mg base CX0 24 t.f_49 t.d_49 ["_law_exam_here","_law_todo"] (zdn K t.C_Exam):=by
 have G_48:=zii (P:=P) (w:=w) (base:=base) T;refine T.F_49.ok sc_49 (fun _ _ _ _ h=>h.1) fun cdv A outer s H vs Q E hr h=>by
  refine ⟨_,(zad (zaU (i:=2) sc_49.nd rfl (Or.inl rfl) (zax pa_nil))
   (zad (zlm ⟨rfl,rfl⟩ (fun xe pn=>(zae (zaE (zi0 G_48 (hr.mono (by decide)) (by rfl) T.m_48 T.F_48.kp T.b_48 (zaa (pv 0) (zaa (pv 1) pa_nil))))))
   (zl3 (i:=3) (fun _ _ z=>z) (by rfl) T.mx_ReadError sc_49.nd rfl rfl (fun _=>(zad (zaU (i:=2) sc_49.nd rfl (Or.inl rfl) (zax (zaa (zaj (zbI (K:=K) rfl) (by rfl) T.z_isinstance (by rfl) (zaa (pv 3) (zaa (zdw (v:=.ty "ValueError") (u:=.type "ValueError") (by rfl) T.z_ValueError (by rfl) rfl) pa_nil))) (zaa (zaj (zbI (K:=K) rfl) (by rfl) T.z_isinstance (by rfl) (zaa (pv 3) (zaa (zbv (v:=.ref t.xa.OutOfTime) (by rfl) T.mx_OutOfTime rfl) pa_nil))) (zaa (zaj (zbI (K:=K) rfl) (by rfl) T.z_isinstance (by rfl) (zaa (pv 3) (zaa (zbv (v:=.ref t.xa.UnknownNumber) (by rfl) T.mx_UnknownNumber rfl) pa_nil))) pa_nil)))))
   (zae (zaU (i:=2) sc_49.nd rfl (Or.inl rfl) (zap (op_addG) (pv 2) (zax (zaa (zaj (zbI (K:=K) rfl) (by rfl) T.z_isinstance (by rfl) (zaa (pv 3) (zaa (zbv (v:=.ref t.xa.NotDue) (by rfl) T.mx_NotDue rfl) pa_nil))) (zaa (zaj (zbI (K:=K) rfl) (by rfl) T.z_isinstance (by rfl) (zaa (pv 3) (zaa (zbv (v:=.ref t.xa.OutOfBounds) (by rfl) T.mx_OutOfBounds rfl) pa_nil))) (zaa (zaj (zbI (K:=K) rfl) (by rfl) T.z_isinstance (by rfl) (zaa (pv 3) (zaa (zbv (v:=.ref t.xa.Full) (by rfl) T.mx_Full rfl) pa_nil))) pa_nil)))))))))))
   (zae (zan (pv 2))))),?_⟩
  obtain ⟨_,x,o,F,st,d,f,rfl,eo,E0,BB,h9,hw,q⟩:=h;have kk:∀ g:Rf,ExK K (t.xa.at g):=fun g=>by
   cases g
   ·exact T.xk_OutOfTime
   ·exact T.xk_UnknownNumber
   ·exact T.xk_NotDue
   ·exact T.xk_OutOfBounds
   ·exact T.xk_Full
  have km:∀ g g':Rf,PySem.W.mroIn K (t.xa.at g) (.ref (t.xa.at g'))=some (decide (rfN g=rfN g')):=fun g g'=>by
   cases g <;> cases g' <;> first | exact (kk _).sf | exact T.i_OutOfTime_UnknownNumber | exact T.i_OutOfTime_NotDue | exact T.i_OutOfTime_OutOfBounds | exact T.i_OutOfTime_Full | exact T.i_UnknownNumber_OutOfTime | exact T.i_UnknownNumber_NotDue | exact T.i_UnknownNumber_OutOfBounds | exact T.i_UnknownNumber_Full | exact T.i_NotDue_OutOfTime | exact T.i_NotDue_UnknownNumber | exact T.i_NotDue_OutOfBounds | exact T.i_NotDue_Full | exact T.i_OutOfBounds_OutOfTime | exact T.i_OutOfBounds_UnknownNumber | exact T.i_OutOfBounds_NotDue | exact T.i_OutOfBounds_Full | exact T.i_Full_OutOfTime | exact T.i_Full_UnknownNumber | exact T.i_Full_NotDue | exact T.i_Full_OutOfBounds
  have kx:PySem.W.exmOne K (.ref (t.xa.at f)) (.ref t.xa.ReadError)=some true:=by
   cases f
   ·exact T.x_OutOfTime_ReadError
   ·exact T.x_UnknownNumber_ReadError
   ·exact T.x_NotDue_ReadError
   ·exact T.x_OutOfBounds_ReadError
   ·exact T.x_Full_ReadError
  symm;refine zai (by decide) fun p0 H0 f0 s0 e0=>?_;symm;refine zl2 fun xe pn hxe=>?_;symm;refine zi9 (s0 _ _ eo) (E0.same s0) BB h9 hw fun H1 s1=>hxe _ _ _ ?_;refine zlp kx fun ae fe=>?_;have ee:(upd H1 ae (excO ae (t.xa.at f))) ae=some (excO ae (t.xa.at f)):=zao;have se:Same H1 (upd H1 ae (excO ae (t.xa.at f))):=zaO fe;generalize upd H1 ae (excO ae (t.xa.at f))=H2 at ee se;symm;refine zln ee (kk f) ?_;symm;refine ze7 (D:=t.xa.at .time) ee (kk f) (kk _) (km f .time) ?_;symm;refine ze7 (D:=t.xa.at .unknown) ee (kk f) (kk _) (km f .unknown) ?_;symm;refine zai (by simp) fun p1 H3 f1 s3 e1=>?_;have ee3:=s3 _ _ ee;symm;refine ze7 (D:=t.xa.at .notdue) ee3 (kk f) (kk _) (km f .notdue) ?_;symm;refine ze7 (D:=t.xa.at .bounds) ee3 (kk f) (kk _) (km f .bounds) ?_;symm;refine ze7 (D:=t.xa.at .full) ee3 (kk f) (kk _) (km f .full) ?_;symm;refine zai (by simp) fun p2 H4 f2 s4 e2=>?_;symm;refine zeo (s4 _ _ e1) e2 (by simp) fun p3 H5 f3 s5 e3=>?_;symm;exact q p3 H5 ((((s0.trans s1).trans se).trans (s3.trans s4)).free f3) ((((s0.trans s1).trans se).trans (s3.trans s4)).trans s5) e3
theorem zdV {C x o:Addr} {H:Hp} {F:Addr→Prop} {st:ExS} {d:De} {f:Rf} {Q:VK} {E:XK} (eo:H o=some (.lst (d.row.map V.int))) (h:ExAt C H x F st) (B:InB st.hs st.rs) (h9:st.en.length≤900) (hw:d.why st=some f) (q:∀ p H',H p=none→Same H H'→H' p=some (.lst ((zcV f).map V.bl))→Q (.ref p) H'):zdn K C [.ref x,.ref o] H Q E:=⟨rfl,x,o,F,st,d,f,rfl,eo,h,B,h9,hw,q⟩
end
end Prf
namespace Prf
open PySem PySem.Spec PyProof.Rows L2
section
variable {P:Program} {w:World} {K:PySem.W.Frag} {mg:Str→Option Value} {base:Heap} {t:Adr}
local macro_rules | `(tactic| walk_at "rd1")=>`(tactic| ((with_reducible refine' zgl ?h1 ?h2 ?_);(case h1=>walk_at "hp");(case h2=>omega)))
local macro_rules | `(tactic| walk_at "rd1")=>`(tactic| (with_reducible refine zh4 ?_))
local macro_rules | `(tactic| walk_at "rd1")=>`(tactic| (with_reducible refine r_methX ?_))
local macro_rules | `(tactic| walk_at "rd1")=>`(tactic| (with_reducible refine zh3 ?_))
local macro_rules | `(tactic| walk_at "rd1")=>`(tactic| (with_reducible refine r_eq2S ?_))
local macro_rules | `(tactic| walk_at "rd1")=>`(tactic| (with_reducible refine zdP ?_))
local macro_rules | `(tactic| walk_at "rd1")=>`(tactic| (with_reducible refine zdS ?_))
def Kp (H:Hp) (F:Addr→Prop) (H':Hp) (F':Addr→Prop):Prop:=∀ c u,H c=some u→¬F c→H' c=some u∧¬F' c
theorem Kp.fr {H H' H2:Hp} {F F' F2:Addr→Prop} (k:Kp H F H' F') (f:ExFr H' H2 F' F2):Kp H F H2 F2:=fun c u e n=>⟨f.kp _ _ (k c u e n).1 (k c u e n).2,fun z=>(f.fp c z).elim (k c u e n).2 fun y=>by rw [(k c u e n).1] at y;cases y⟩
theorem Kp.same {H H' H2:Hp} {F F':Addr→Prop} (k:Kp H F H' F') (s:Same H' H2):Kp H F H2 F':=fun c u e n=>⟨s _ _ (k c u e n).1,(k c u e n).2⟩
def zfl (K:PySem.W.Frag):Sp:=fun vs H Q _=>vs.length=1∧∃ (a:Addr) (ns:List Int),vs=[.ref a]∧SqL K H a (ns.map V.int)∧ns.length≤63∧∀ H',Q (.bl true) H'
theorem zlz (T:Txt K mg t):FnOk P w K mg base CX0 25 t.f_51 t.d_51 ["_law_script"] (zfl K):=by
 have G_43:=zib (P:=P) (w:=w) (base:=base) T;have G_47:=zfH (P:=P) (w:=w) (base:=base) T;have G_46:=zgP (P:=P) (w:=w) (base:=base) T;have G_25:=zc4 (P:=P) (w:=w) (base:=base) T;have G_45:=zfg (P:=P) (w:=w) (base:=base) T;have G_24:=zdm (P:=P) (w:=w) (base:=base) T;have G_50:=zgX (P:=P) (w:=w) (base:=base) T;have G_21:=zbi (P:=P) (w:=w) (base:=base) T;have G_22:=za9 (P:=P) (w:=w) (base:=base) T;have G_49:=zfk (P:=P) (w:=w) (base:=base) T;refine T.F_51.ok sc_51 (fun _ _ _ _ h=>h.1) fun cdv A outer s H vs Q E hr h=>by
  refine ⟨_,(zad (zaU (i:=1) sc_51.nd rfl (Or.inl rfl) (zar G_43 (hr.mono (by decide)) (by rfl) T.m_43 T.F_43.kp T.b_43 .nil zaN (zaa (pv 0) (zaa zab pa_nil))))
   (zad (zaU (i:=2) sc_51.nd rfl (Or.inr rfl) (zap (op_mod) (zar G_43 (hr.mono (by decide)) (by rfl) T.m_43 T.F_43.kp T.b_43 .nil zaN (zaa (pv 0) (zaa zab pa_nil))) zab))
   (zad (zgz (i:=3) sc_51.nd rfl (Or.inl rfl) (by rfl) (zaD (sc:=zac s_51) (XN:=["_law_script","_law_cell","_law_kind","_law_homes","_law_staff","_law_k","_law_dealt","_law_exam_here","_law_todo","_law_due"]) (N:=["_law_k","_law_script"]) (own:=1) (js:=[0]) rfl rfl (by decide +kernel)) rfl (zbJ (by rfl) T.z_range (zaa (zap (op_addG) zab (zap (op_mod) (zar G_43 (hr.mono (by decide)) (by rfl) T.m_43 T.F_43.kp T.b_43 .nil zaN (zaa (pv 0) (zaa zab pa_nil))) zab)) pa_nil)) (fun _ _ _ _ _=>(zaC (i:=0) (show List.Nodup [(Str.ofString "_law_k"),(Str.ofString "_law_script")] by decide +kernel) rfl (Or.inl rfl))) (fun _ _ _ _ _=>zb0) (fun _ _ _ _ _=>(zap (op_addG) zab (zap (op_mod) (zar G_43 (hr.mono (by decide)) (by rfl) T.m_43 T.F_43.kp T.b_43 .nil zaN (zaa (pv 1) (zaa (zap (op_addG) zab (pv 0)) pa_nil))) zab))))
   (zad (zaU (i:=4) sc_51.nd rfl (Or.inl rfl) (zax (zaa (zax (zaa zab (zaa zab pa_nil))) (zaa (zax (zaa zab (zaa zab pa_nil))) pa_nil))))
   (zad (zbK PassesOwn.never rfl (zbJ (by rfl) T.z_range (zaa (zap (op_mod) (zar G_43 (hr.mono (by decide)) (by rfl) T.m_43 T.F_43.kp T.b_43 .nil zaN (zaa (pv 0) (zaa zab pa_nil))) zab) pa_nil)) (zaC (i:=5) sc_51.nd rfl (Or.inl rfl))
   (zae (zaE (zdh (K:=K) rfl PySem.F.plainAttrs_list PySem.F.slot_list_append PySem.F.type_list_append mt_append (pv 4) (zaa (zax (zaa (zap (op_mod) (zar G_43 (hr.mono (by decide)) (by rfl) T.m_43 T.F_43.kp T.b_43 .nil zaN (zaa (pv 0) (zaa (zap (op_addG) zab (pv 5)) pa_nil))) zab) (zaa (zap (op_mod) (zap (op_fdivB) (zar G_43 (hr.mono (by decide)) (by rfl) T.m_43 T.F_43.kp T.b_43 .nil zaN (zaa (pv 0) (zaa (zap (op_addG) zab (pv 5)) pa_nil))) zab) zab) pa_nil))) pa_nil)))))
   (zad (zaU (i:=6) sc_51.nd rfl (Or.inl rfl) (zlC (zbZ (za4 (K:=K) rfl hr.units0) (pv 2) zab (zaA _)) (zeB (zfW (zbZ (op_lt) (pv 2) zab (zaA _)) (zeB (zbZ (za4 (K:=K) rfl hr.units0) (zap (op_mod) (zar G_43 (hr.mono (by decide)) (by rfl) T.m_43 T.F_43.kp T.b_43 .nil zaN (zaa (pv 0) (zaa zab pa_nil))) zab) zab (zaA _)))))))
   (zad (zaU (i:=7) sc_51.nd rfl (Or.inl rfl) (zar G_47 (hr.mono (by decide)) (by rfl) T.m_47 T.F_47.kp T.b_47 .nil zaN (zaa (pv 3) (zaa (pv 4) (zaa zab (zaa (pv 1) pa_nil))))))
   (zad (zaY (zdf (zaJ (K:=K) rfl (pv 6) (fun _=>rfl)) (zcj (zfo (zdg (zaJ (K:=K) rfl (zar G_45 (hr.mono (by decide)) (by rfl) T.m_45 T.F_45.kp T.b_45 .nil zaN (zaa (zbQ (pv 7) T.cl_Exam T.me_24 G_24 (hr.mono (by decide)) T.b_24 .nil ze1) (zaa zb4 pa_nil))) (fun _=>rfl))) (zdx (zdg (zaJ (K:=K) rfl (zar G_46 (hr.mono (by decide)) (by rfl) T.m_46 T.F_46.kp T.b_46 .nil zaN (zaa (zax (zaa (zaQ (pv 7) T.cl_Exam T.me_25 G_25 (hr.mono (by decide)) T.b_25 .nil ze1 (zaa zab (zaa zab (zaa zab pa_nil)))) pa_nil)) (zaa (zax (zaa zab pa_nil)) pa_nil))) (fun _=>rfl))))).pt)).pt
   (zae (zan zb4)) pss_nil)
   (zad (zaU (i:=8) sc_51.nd rfl (Or.inl rfl) (zar G_50 (hr.mono (by decide)) (by rfl) T.m_50 T.F_50.kp T.b_50 .nil zaN (zaa (pv 2) (zaa (pv 6) (zaa (pv 1) (zaa (pv 3) (zaa (zaj (zaq (K:=K) rfl) (by rfl) T.z_len (by rfl) (zaa (pv 4) pa_nil)) pa_nil)))))))
   (zad (zaY (zas (za4 (K:=K) rfl hr.units0) (pv 2) zab (zaA _))
   (zae (zaU (i:=8) sc_51.nd rfl (Or.inl rfl) (zax (zaa zab (zaa zab (zaa zab (zaa (zap (op_mod) (zar G_43 (hr.mono (by decide)) (by rfl) T.m_43 T.F_43.kp T.b_43 .nil zaN (zaa (pv 0) (zaa zab pa_nil))) zab) pa_nil))))))) pss_nil)
   (zad (zaY (zdf (zas (za4 (K:=K) rfl hr.units0) (pv 2) zab (zaA _)) (zcj (zas (za4 (K:=K) rfl hr.units0) (zap (op_mod) (pv 1) zab) zab (zaA _)))).pt
   (zad (zbK PassesOwn.never rfl (zbJ (by rfl) T.z_range (zaa (zap (op_sub) zab (zaj (zaq (K:=K) rfl) (by rfl) T.z_len (by rfl) (zaa (pv 3) pa_nil))) pa_nil)) (zaC (i:=5) sc_51.nd rfl (Or.inl rfl))
   (zae (zaE (zaQ (pv 7) T.cl_Exam T.me_21 G_21 (hr.mono (by decide)) T.b_21 .nil ze1 (zaa zab pa_nil)))))
   (zae (zaU (i:=8) sc_51.nd rfl (Or.inl rfl) (zax (zaa zab (zaa (zap (op_addG) zab (zap (op_mod) (zap (op_fdivB) (pv 1) zab) zab)) pa_nil)))))) pss_nil)
   (zad (zaY (zdf (zas (za4 (K:=K) rfl hr.units0) (pv 2) zab (zaA _)) (zcj (zas (za4 (K:=K) rfl hr.units0) (zap (op_mod) (pv 1) zab) zab (zaA _)))).pt
   (zad (zbK PassesOwn.never rfl (zbJ (by rfl) T.z_range (zaa (zap (op_sub) zab (zaj (zaq (K:=K) rfl) (by rfl) T.z_len (by rfl) (zaa (pv 4) pa_nil))) pa_nil)) (zaC (i:=5) sc_51.nd rfl (Or.inl rfl))
   (zae (zaE (zaQ (pv 7) T.cl_Exam T.me_22 G_22 (hr.mono (by decide)) T.b_22 .nil ze1 (zaa zab (zaa zab pa_nil))))))
   (zae (zaU (i:=8) sc_51.nd rfl (Or.inl rfl) (zax (zaa zab (zaa (zap (op_mod) (zap (op_fdivB) (pv 1) zab) zab) (zaa (zap (op_mod) (zap (op_fdivB) (pv 1) zab) zab) pa_nil))))))) pss_nil)
   (zad (zaU (i:=9) sc_51.nd rfl (Or.inl rfl) (zap (op_addG) (zax (zaa zb4 pa_nil)) (zbD (zaD (sc:=zac s_51) (XN:=["_law_script","_law_cell","_law_kind","_law_homes","_law_staff","_law_k","_law_dealt","_law_exam_here","_law_todo","_law_due"]) (N:=["_law_k","_law_kind"]) (own:=1) (js:=[2]) rfl rfl (by decide +kernel)) rfl (zbJ (by rfl) T.z_range (zaa zab pa_nil)) (fun _ _ _ _ _=>(zaC (i:=0) (show List.Nodup [(Str.ofString "_law_k"),(Str.ofString "_law_kind")] by decide +kernel) rfl (Or.inl rfl))) (fun _ _ _ _ _=>zb0) (fun _ _ _ _ _=>(zbZ (za4 (K:=K) rfl hr.units0) (pv 1) (pv 0) (zaA _))))))
   (zae (zan (zfW (zbZ (za4 (K:=K) rfl hr.units0) (zar G_49 (hr.mono (by decide)) (by rfl) T.m_49 T.F_49.kp T.b_49 .nil zaN (zaa (pv 7) (zaa (pv 8) pa_nil))) (pv 9) (zaA _)) (zeB (zbZ (za4 (K:=K) rfl hr.units0) (zar G_49 (hr.mono (by decide)) (by rfl) T.m_49 T.F_49.kp T.b_49 .nil zaN (zaa (pv 7) (zaa (pv 8) pa_nil))) (pv 9) (zaA _))))))))))))))))))),?_⟩
  obtain ⟨_,a,ns,rfl,hS,hl,q⟩:=h;walk_at "st";refine zfw ?_;walk_at "st";refine zfw ?_;walk_at "st";have hc0:0≤zdX ns 0 % 5∧zdX ns 0 % 5 < 5:=by omega
  generalize zdX ns 1=cell at *;generalize zdX ns 0 % 5=kind at *;obtain ⟨m,hm,hm0,hm1⟩:∃ m:Nat,zdX ns 2 % 10=(m:Int)-1∧1≤m∧m≤10:=⟨(zdX ns 2 % 10).toNat+1,by omega,by omega,by omega⟩
  refine zfw ?_;symm;rw [hm,show (1:Int)+((m:Int)-1)=m by omega];refine zdC (by omega) (by omega) ?_;refine zdE (zcv _ _ _) (by omega) (fun i=>1+zdX ns (5+(0+i)) % 6) (fun i H' Q' hi s q=>?_) fun p1 H1 f1 s1 e1=>?_
  ·have hS2:=s.seq hS;symm;exact q
  obtain ⟨hs,e1,hsl,hsb⟩:∃ hs:List Int,H1 p1=some (.lst (hs.map V.int))∧hs.length=m∧∀ i,i < hs.length→1≤hs.getD i 0∧hs.getD i 0≤6:=⟨_,e1,by rw [length_map,length_range];omega,fun i hi=>by rw [length_map,length_range] at hi;rw [zaw hi];omega⟩
  have hS1:=s1.seq hS;symm;refine zai (by decide) fun pa H2 f2 s2 e2=>?_;symm;refine zai (by decide) fun pb H3 f3 s3 e3=>?_;symm;refine zai (by simp) fun p2 H4 f4 s4 e4=>?_;have R4:zaL H1 p2 [[0,10],[0,10]] H4:=⟨(s2.trans s3).trans s4,(s2.trans s3).free f4,[pa,pb],e4,rfl,by simpa using zag e2 f3,fun i hi=>by
   match i,hi with
   | 0,_=>exact ⟨s4 _ _ (s3 _ _ e2),f2,zag (s3 _ _ e2) f4⟩
   | 1,_=>exact ⟨s4 _ _ e3,s2.free f3,zag e3 f4⟩⟩
  have W4:Two0 hs [[0,10],[0,10]]:=⟨⟨by omega,by decide,hsb,by decide,by decide,by decide⟩,by decide,rfl,rfl⟩
  have hS4:=R4.same.seq hS1;symm;refine zdC (by omega) (by omega) ?_;refine zdD (fun i σ H'=>∃ (v5:Option V) (rs:LI),σ=[some (.ref a),some (.int cell),some (.int kind),some (.ref p1),some (.ref p2),v5,none,none,none,none]∧zaL H1 p2 rs H'∧rs.length=2+i∧Two0 hs rs) ⟨none,_,rfl,R4,rfl,W4⟩ ?_ ?_
  ·rintro i σ J hi ⟨v5,rs,rfl,R,hrl,W⟩;have hSJ:=R.same.seq hS1;obtain ⟨zs,hz,hzl⟩:=R.lst;symm;refine zai (by simp) fun r J2 fr sr er=>?_;have hz2:=sr _ _ hz;symm;refine zbg hz2 (by omega) fun J3 b3 e5=>?_;symm;refine ⟨_,_,rfl,R.push (r:=[_,_]) fr sr er hz2 b3 e5,by rw [length_append,length_singleton];omega,W.inb.addR (by omega) (by omega) (by omega),?_,?_,?_⟩
   ·rw [length_append,length_singleton];omega
   ·rw [zaF (by omega)];exact W.a
   ·rw [zaF (by omega)];exact W.b
  rintro σ J ⟨v5,rs,rfl,R,hrl,W⟩;have hSJ:=R.same.seq hS1;have e1J:=R.same _ _ e1;obtain ⟨zs,hz,hzl⟩:=R.lst;have B1:=W.inb.lp;have B2:=W.inb.lr;walk_at "st";refine zbw (fun σ H'=>∃ b:Bool,σ=[some (.ref a),some (.int cell),some (.int kind),some (.ref p1),some (.ref p2),v5,some (.bl b),none,none,none]∧J=H'∧(kind=2→b=true)∧(kind=4→b=false)) ?_ ?_
  ·intro nx' hnx;symm;refine zb1 (fun z=>?_) (fun z=>?_)
   ·exact hnx _ _ ⟨true,rfl,rfl,fun _=>rfl,fun y=>absurd y (by omega)⟩
   symm;refine zb1 (fun y=>?_) (fun y=>?_)
   ·symm;exact hnx _ _ ⟨_,rfl,rfl,fun y'=>absurd y' z,fun y'=>absurd y' (by omega)⟩
   ·exact hnx _ _ ⟨false,rfl,rfl,fun y'=>absurd y' z,fun _=>rfl⟩
  rintro σ H' ⟨b,rfl,rfl,hb2,hb4⟩;symm;refine zgO (SqL.of e1J) R.ll W.inb (by decide) (by decide) fun x F J1 fx S1 nF E1=>?_;have K1:Kp J (fun _=>False) J1 F:=fun c u e _=>⟨S1 _ _ e,nF c u e⟩
  walk_at "st";refine zbw (fun σ H'=>∃ (F':Addr→Prop) (st:ExS),σ=[some (.ref a),some (.int cell),some (.int kind),some (.ref p1),some (.ref p2),v5,some (.bl b),some (.ref x),none,none]∧Kp J (fun _=>False) H' F'∧ExAt t.C_Exam H' x F' st∧st.hs=hs∧st.rs=rs∧st.en.length≤900∧Sit st b) ?_ ?_
  ·intro nx' hnx
   cases b with
   | false =>
     walk_at "rdk";exact hnx _ _ ⟨F,_,rfl,K1,E1,rfl,rfl,by show (0:Nat)≤900;decide,Sit.open_ (by omega) W.l2⟩
   | true =>
     obtain ⟨dx6,fs6,hob6,hlk6⟩:=E1.ob;walk_at "rdk";refine zau hob6 (hlk6 _ (by decide +kernel)) ?_;symm;refine zfT E1 W.inb rfl (fun F0=>absurd (F0 _) (by rw [twos_right W];decide)) (fun tt FD J2 F2 f2' E2=>?_);have htt:=twos_first W FD;subst htt;have K2:=K1.fr f2';obtain ⟨dx7,fs7,hob7,hlk7⟩:=E2.ob;symm;refine iteF ?_;symm;refine zau hob7 (hlk7 _ (by decide +kernel)) ?_;symm;refine zfe E2 W.inb rfl (by decide) (by show (1:Int)≤((List.replicate hs.length [1,2]:LI).length:Int);rw [length_replicate];omega) (mem_filter.mpr ⟨by show (1:Int)∈(List.replicate hs.length [1,2]:LI).getD 0 [];rw [zey (by omega)];decide,rfl⟩) (by decide) (by decide) (by show (0:Nat)≤900;decide) fun J3 F3 f3' E3=>?_;have E3:ExAt t.C_Exam J3 x F3 (dlt hs rs):=by
      have:=E3;rw [show zbU (entS (⟨hs,rs,100,some (List.replicate hs.length [1,2],[])⟩:ExS) ((1:Int)-1).toNat 1 60) ((1:Int)-1).toNat=dlt hs rs from zia (hs:=hs) (rs:=rs) (by omega)] at this;exact this
     rw [show zbG (entS (⟨hs,rs,100,some (List.replicate hs.length [1,2],[])⟩:ExS) ((1:Int)-1).toNat 1 60) ((1:Int)-1).toNat=0 from ze9 (hs:=hs) (rs:=rs) (by omega)];have K3:=K2.fr f3';symm;refine zai (by decide) fun q1 J4 g1 t1 d1=>?_;symm;refine zai (by decide) fun q2 J5 g2 t2 d2=>?_;symm;refine zic (xs:=[0]) (ys:=[0]) (t2 _ _ d1) (SqL.of d2) (by decide) ?_;symm;refine iteF ?_;symm;exact hnx _ _ ⟨F3,_,rfl,K3.same (t1.trans t2),E3.same (t1.trans t2),rfl,rfl,by show (1:Nat)≤900;decide,Sit.dealt (by omega) W.l2⟩
  rintro σ J2 ⟨F2,st,rfl,K2,E2,hh,hr',h9,S⟩;have e12:=(K2 _ _ e1J id).1;have ez2:=(K2 _ _ hz id).1;have BB:InB st.hs st.rs:=by rw [hh,hr'];exact W.inb
  have hS2:SqL K J2 a (ns.map V.int):=Same.seq (fun c u e=>(K2 c u e id).1) hSJ;symm;refine zih e12 fun o J3 d fo s3' eo hw=>?_;have hw:=hw st S (by rw [hh]);have K3:=K2.same s3';have E3:=E2.same s3';have hS3:=s3'.seq hS2;walk_at "st";refine zbw (fun σ H'=>∃ (o:Addr) (d:De) (f:Rf),σ=[some (.ref a),some (.int cell),some (.int kind),some (.ref p1),some (.ref p2),v5,some (.bl b),some (.ref x),some (.ref o),none]∧Same J3 H'∧H' o=some (.lst (d.row.map V.int))∧(kind≠4→d.why st=some f∧(rfN f:Int)=kind)) ?_ ?_
  ·intro nx' hnx
   by_cases k2:kind=2
   ·subst k2;walk_at "rdk";refine zai (by simp) fun o' J4 g1 t1 d1=>?_;symm;have:b=true:=hb2 rfl;subst this;exact hnx _ _ ⟨o',.enter 1 1 _,.notdue,rfl,t1,d1,fun _=>⟨S.nodue,rfl⟩⟩
   ·walk_at "rdk";rcases (show kind=0∨kind=1∨kind=3∨kind=4 by omega) with z | z | z | z
    ·exact hnx _ _ ⟨o,d,.time,rfl,fun _ _ e=>e,eo,fun _=>⟨hw.1 z,z.symm⟩⟩
    ·exact hnx _ _ ⟨o,d,.unknown,rfl,fun _ _ e=>e,eo,fun _=>⟨hw.2.1 z,z.symm⟩⟩
    ·exact hnx _ _ ⟨o,d,.bounds,rfl,fun _ _ e=>e,eo,fun _=>⟨hw.2.2 z,z.symm⟩⟩
    ·exact hnx _ _ ⟨o,d,.full,rfl,fun _ _ e=>e,eo,fun y=>absurd z y⟩
  rintro σ J4 ⟨o4,d4,f4',rfl,s4',eo4,hw4⟩;have K4:=K3.same s4';have E4:=E3.same s4';have hS4:=s4'.seq hS3;have e14:=(K4 _ _ e1J id).1;have ez4:=(K4 _ _ hz id).1;walk_at "st";refine zbw (fun σ H'=>∃ (v5:Option V) (o:Addr) (F':Addr→Prop) (st':ExS) (d:De) (f:Rf),σ=[some (.ref a),some (.int cell),some (.int kind),some (.ref p1),some (.ref p2),v5,some (.bl b),some (.ref x),some (.ref o),none]∧Kp J (fun _=>False) H' F'∧ExAt t.C_Exam H' x F' st'∧InB st'.hs st'.rs∧st'.en.length≤900∧H' o=some (.lst (d.row.map V.int))∧(kind=4∧cell % 2=1→st'=st)∧(¬(kind=4∧cell % 2=1)→d.why st'=some f∧(rfN f:Int)=kind)) ?_ ?_
  ·intro nx' hnx
   by_cases k4:kind=4
   ·subst k4;have:b=false:=hb4 rfl;subst this;have hdl:st.dl=none:=zew S.no;rcases (show cell % 2=0∨cell % 2=1 by omega) with z | z
    ·walk_at "rdk";refine zdC (by omega) (by omega) ?_;refine zdD (fun i σ H'=>∃ (v5:Option V) (F':Addr→Prop) (st':ExS),σ=[some (.ref a),some (.int cell),some (.int 4),some (.ref p1),some (.ref p2),v5,some (.bl false),some (.ref x),some (.ref o4),none]∧Kp J (fun _=>False) H' F'∧ExAt t.C_Exam H' x F' st'∧InB st'.hs st'.rs∧st'.dl=none∧st'.hs.length=hs.length+i∧st'.rs=rs) ⟨v5,F2,st,rfl,K4,E4,BB,hdl,by rw [hh];rfl,hr'⟩ ?_ ?_
     ·rintro i σ J5 hi ⟨v5,F5,st5,rfl,K5,E5,B5,dl5,l5,r5⟩;obtain ⟨dx7,fs7,hob7,hlk7⟩:=E5.ob;symm;refine zau hob7 (hlk7 _ (by decide +kernel)) ?_;symm;refine zbs E5 B5 dl5 ⟨by decide,by decide,by omega⟩ fun J6 F6 f6 E6=>?_;symm;exact ⟨_,F6,_,rfl,K5.fr f6,E6,InB.addP B5 (by omega) (by decide),dl5,by show (st5.hs++[2]).length=_;rw [length_append,length_singleton];omega,r5⟩
     ·rintro σ J5 ⟨v5,F5,st5,rfl,K5,E5,B5,dl5,l5,r5⟩;symm;refine zai (by simp) fun o' J6 g1 t1 d1=>?_;symm;have S5:Sit st5 false:=⟨by rw [dl5];rfl,by omega,by rw [r5];exact W.l2,fun z=>(by cases z),fun z=>(by cases z)⟩
      refine hnx _ _ ⟨_,o',F5,st5,.paper _,.full,rfl,K5.same t1,E5.same t1,B5,by unfold ExS.en;rw [dl5];exact zero_le _,d1,fun y=>absurd y.2 (by omega),fun _=>⟨S5.fullP (by omega) (by omega),rfl⟩⟩
    ·walk_at "rdk";exact hnx _ _ ⟨v5,o4,F2,st,d4,f4',rfl,K4,E4,BB,h9,eo4,fun _=>rfl,fun y=>absurd ⟨rfl,z⟩ y⟩
   ·walk_at "rdk";exact hnx _ _ ⟨v5,o4,F2,st,d4,f4',rfl,K4,E4,BB,h9,eo4,fun y=>absurd y.1 k4,fun _=>hw4 k4⟩
  rintro σ J5 ⟨v6,o5,F5,st5,d5,f5',rfl,K5,E5,B5,h95,eo5,hst5,hw5⟩;have e15:=(K5 _ _ e1J id).1;have ez5:=(K5 _ _ hz id).1;walk_at "st";refine zbw (fun σ H'=>∃ (v5:Option V) (o:Addr) (F':Addr→Prop) (st':ExS) (d:De) (f:Rf),σ=[some (.ref a),some (.int cell),some (.int kind),some (.ref p1),some (.ref p2),v5,some (.bl b),some (.ref x),some (.ref o),none]∧ExAt t.C_Exam H' x F' st'∧InB st'.hs st'.rs∧st'.en.length≤900∧H' o=some (.lst (d.row.map V.int))∧d.why st'=some f∧(rfN f:Int)=kind) ?_ ?_
  ·intro nx' hnx
   by_cases k4:kind=4∧cell % 2=1
   ·obtain ⟨rfl,z⟩:=k4;have:b=false:=hb4 rfl;subst this;have hst:=hst5 ⟨rfl,z⟩;subst hst;have hdl:st5.dl=none:=zew S.no;walk_at "rdk";refine zdC (by omega) (by omega) ?_;refine zdD (fun i σ H'=>∃ (v5:Option V) (F':Addr→Prop) (st':ExS),σ=[some (.ref a),some (.int cell),some (.int 4),some (.ref p1),some (.ref p2),v5,some (.bl false),some (.ref x),some (.ref o5),none]∧ExAt t.C_Exam H' x F' st'∧InB st'.hs st'.rs∧st'.dl=none∧st'.rs.length=rs.length+i∧st'.hs=hs) ⟨v6,F5,st5,rfl,E5,B5,hdl,by rw [hr'];rfl,hh⟩ ?_ ?_
    ·rintro i σ J6 hi ⟨v5,F6,st6,rfl,E6,B6,dl6,l6,r6⟩;obtain ⟨dx7,fs7,hob7,hlk7⟩:=E6.ob;symm;refine zau hob7 (hlk7 _ (by decide +kernel)) ?_;symm;refine zbM E6 B6 dl6 ⟨by decide,by decide,by decide,by decide,by omega⟩ fun J7 F7 f7 E7=>?_;symm;exact ⟨_,F7,_,rfl,E7,B6.addR (by omega) (by decide) (by decide),dl6,by show (st6.rs++[[2,2]]).length=_;rw [length_append,length_singleton];omega,r6⟩
    ·rintro σ J6 ⟨v5,F6,st6,rfl,E6,B6,dl6,l6,r6⟩;symm;refine zai (by simp) fun o' J7 g1 t1 d1=>?_;symm;have S6:Sit st6 false:=⟨by rw [dl6];rfl,by rw [r6];omega,by omega,fun z=>(by cases z),fun z=>(by cases z)⟩
     refine hnx _ _ ⟨_,o',F6,st6,.reader _ _,.full,rfl,E6.same t1,B6,by unfold ExS.en;rw [dl6];exact zero_le _,d1,S6.fullR (by omega) (by omega) (by omega),rfl⟩
   ·have hw:=hw5 k4;have fin:=hnx _ _ ⟨v6,o5,F5,st5,d5,f5',rfl,E5,B5,h95,eo5,hw.1,hw.2⟩;symm;refine zb1 (fun z=>?_) (fun z=>?_)
    ·symm;refine zb1 (fun y=>absurd ⟨z,y⟩ k4) (fun y=>?_);symm;exact fin
    ·symm;exact fin
  rintro σ J6 ⟨v7,o6,F6,st6,d6,f6,rfl,E6,B6,h96,eo6,hw6,hf6⟩;symm;refine zai (by decide) fun q1 J7 g1 t1 d1=>?_;symm;refine zdC (by decide) (by decide) ?_;refine zcl (zcv _ _ _) (zaW (by decide)) (fun _=>true) (fun i=>.bl (decide (kind=(i:Int)))) (fun i H' Q' hi s q'=>q') (fun i H' Q' hi s _ q'=>?_) fun q2 g2=>?_
  ·symm;rw [show (0:Int)+(i:Int)=i by omega];exact q'
  have t2:Same J7 (upd J7 q2 (.lst (((List.range (5:Int).toNat).filter fun _=>true).map fun i:Nat=>V.bl (decide (kind=(i:Int)))))):=zaO g2;have d2:(upd J7 q2 (.lst (((List.range (5:Int).toNat).filter fun _=>true).map fun i:Nat=>V.bl (decide (kind=(i:Int)))))) q2=some (.lst (((List.range (5:Int).toNat).filter fun _=>true).map fun i:Nat=>V.bl (decide (kind=(i:Int))))):=zao;refine zeo (t2 _ _ d1) d2 (by rw [length_map];decide) fun q3 J8 g3 t3 d3=>?_;have d3:J8 q3=some (.lst ((zcV f6).map V.bl)):=by
   rw [d3,← zh8 hf6];rfl
  have s8:=t1.trans (t2.trans t3);symm;refine zdV (s8 _ _ eo6) (E6.same s8) B6 h96 hw6 fun k1 J9 g9 t9 d9=>?_;symm;refine ze8 f6 d9 (t9 _ _ d3) ?_;walk_at "rdk";refine zdV (t9 _ _ (s8 _ _ eo6)) ((E6.same s8).same t9) B6 h96 hw6 fun k2 J10 g10 t10 d10=>?_;symm;refine ze8 f6 d10 (t10 _ _ (t9 _ _ d3)) ?_;exact q _
theorem law_start {a:Addr} {ns:List Int} {H:Hp} (hl:ns.length≤63) (hS:SqL K H a (ns.map V.int)):zfl K [.ref a] H (fun v _=>v=.bl true) fun _ _ _=>False:=⟨rfl,a,ns,rfl,hS,hl,fun _=>rfl⟩
end
abbrev FnO (n q:Str) (s:Stmt) (oc:Value) (od:Option Addr) (kV dc pm:Value) (an:Option Addr) (cd ct:Value) (sl:Array (Option Value)):Obj:=⟨oc,od,.func (fnOf n q (zam s) (zak s) (zac s) .none kV dc pm an cd ct),sl⟩
theorem zlA {l:PySem.W.OpenLaw} {w:World} {K:PySem.W.Frag} {h:Heap} {mg:Str→Option Value} {fa:Addr} (X:K.In h) (G:h.Ns mainGlobals mg) (hfa:mg "law"=some (.ref fa))
  {C_Attempt:Addr} (aC_Attempt:nsIn K mainGlobals "Attempt"=some (some (.ref C_Attempt)))
  {C_Exam:Addr} (aC_Exam:nsIn K mainGlobals "Exam"=some (some (.ref C_Exam)))
  {tk_READERS_EACH:Tok}
  {tk_MOST_HOUSES:Tok}
  {tk_MOST_PAPERS:Tok}
  {tk_MOST_LIMIT:Tok}
  {tk_MOST_READERS:Tok}
  {tk_MOST_STEP:Tok}
  {tk_MOST_POINTS:Tok}
  {X_OutOfTime X_UnknownNumber X_NotDue X_OutOfBounds X_Full X_ReadError:Addr}
  (a0:nsIn K mainGlobals "_law_at"=some (some (.ref f0))) (l0:K.lookup f0=some (FnO "_law_at" "_law_at" s_43 oc0 od0 kV0 dc0 pm0 an0 cd0 ct0 sl0)) (c0:codeIn K cd0 "_law_at"=true) (k0:keepIn K (.ref f0)=true)
  (a1:PySem.W.findIn K (.ref C_Exam) "__init__"=some (some (.ref f1))) (i1:isFn K (.ref f1)=true) (l1:K.lookup f1=some (FnO "__init__" "Exam.__init__" s_20 oc1 od1 kV1 dc1 pm1 an1 cd1 ct1 sl1)) (c1:codeIn K cd1 "Exam.__init__"=true) (k1:keepIn K (.ref f1)=true)
  (a2:PySem.W.findIn K (.ref C_Exam) "refuse_behind_dealing"=some (some (.ref f2))) (i2:isFn K (.ref f2)=true) (l2:K.lookup f2=some (FnO "refuse_behind_dealing" "Exam.refuse_behind_dealing" s_35 oc2 od2 kV2 dc2 pm2 an2 cd2 ct2 sl2)) (c2:codeIn K cd2 "Exam.refuse_behind_dealing"=true) (k2:keepIn K (.ref f2)=true)
  (a3:nsIn K mainGlobals "refuse_out_of_bounds"=some (some (.ref f3))) (l3:K.lookup f3=some (FnO "refuse_out_of_bounds" "refuse_out_of_bounds" s_17 oc3 od3 kV3 dc3 pm3 an3 cd3 ct3 sl3)) (c3:codeIn K cd3 "refuse_out_of_bounds"=true) (k3:keepIn K (.ref f3)=true)
  (a4:PySem.W.findIn K (.ref C_Exam) "set_step"=some (some (.ref f4))) (i4:isFn K (.ref f4)=true) (l4:K.lookup f4=some (FnO "set_step" "Exam.set_step" s_23 oc4 od4 kV4 dc4 pm4 an4 cd4 ct4 sl4)) (c4:codeIn K cd4 "Exam.set_step"=true) (k4:keepIn K (.ref f4)=true)
  (a5:nsIn K mainGlobals "refuse_unknown"=some (some (.ref f5))) (l5:K.lookup f5=some (FnO "refuse_unknown" "refuse_unknown" s_16 oc5 od5 kV5 dc5 pm5 an5 cd5 ct5 sl5)) (c5:codeIn K cd5 "refuse_unknown"=true) (k5:keepIn K (.ref f5)=true)
  (a6:nsIn K mainGlobals "refuse_full"=some (some (.ref f6))) (l6:K.lookup f6=some (FnO "refuse_full" "refuse_full" s_18 oc6 od6 kV6 dc6 pm6 an6 cd6 ct6 sl6)) (c6:codeIn K cd6 "refuse_full"=true) (k6:keepIn K (.ref f6)=true)
  (a7:PySem.W.findIn K (.ref C_Exam) "bring_paper"=some (some (.ref f7))) (i7:isFn K (.ref f7)=true) (l7:K.lookup f7=some (FnO "bring_paper" "Exam.bring_paper" s_21 oc7 od7 kV7 dc7 pm7 an7 cd7 ct7 sl7)) (c7:codeIn K cd7 "Exam.bring_paper"=true) (k7:keepIn K (.ref f7)=true)
  (a8:PySem.W.findIn K (.ref C_Exam) "bring_reader"=some (some (.ref f8))) (i8:isFn K (.ref f8)=true) (l8:K.lookup f8=some (FnO "bring_reader" "Exam.bring_reader" s_22 oc8 od8 kV8 dc8 pm8 an8 cd8 ct8 sl8)) (c8:codeIn K cd8 "Exam.bring_reader"=true) (k8:keepIn K (.ref f8)=true)
  (a9:nsIn K mainGlobals "_law_exam"=some (some (.ref f9))) (l9:K.lookup f9=some (FnO "_law_exam" "_law_exam" s_47 oc9 od9 kV9 dc9 pm9 an9 cd9 ct9 sl9)) (c9:codeIn K cd9 "_law_exam"=true) (k9:keepIn K (.ref f9)=true)
  (a10:nsIn K mainGlobals "_law_whole"=some (some (.ref f10))) (l10:K.lookup f10=some (FnO "_law_whole" "_law_whole" s_44 oc10 od10 kV10 dc10 pm10 an10 cd10 ct10 sl10)) (c10:codeIn K cd10 "_law_whole"=true) (k10:keepIn K (.ref f10)=true)
  (a11:nsIn K mainGlobals "_law_row"=some (some (.ref f11))) (l11:K.lookup f11=some (FnO "_law_row" "_law_row" s_46 oc11 od11 kV11 dc11 pm11 an11 cd11 ct11 sl11)) (c11:codeIn K cd11 "_law_row"=true) (k11:keepIn K (.ref f11)=true)
  (a12:PySem.W.findIn K (.ref C_Exam) "refuse_ahead_of_dealing"=some (some (.ref f12))) (i12:isFn K (.ref f12)=true) (l12:K.lookup f12=some (FnO "refuse_ahead_of_dealing" "Exam.refuse_ahead_of_dealing" s_36 oc12 od12 kV12 dc12 pm12 an12 cd12 ct12 sl12)) (c12:codeIn K cd12 "Exam.refuse_ahead_of_dealing"=true) (k12:keepIn K (.ref f12)=true)
  (a13:PySem.W.findIn K (.ref C_Exam) "due_readers"=some (some (.ref f13))) (i13:isFn K (.ref f13)=true) (l13:K.lookup f13=some (FnO "due_readers" "Exam.due_readers" s_38 oc13 od13 kV13 dc13 pm13 an13 cd13 ct13 sl13)) (c13:codeIn K cd13 "Exam.due_readers"=true) (k13:keepIn K (.ref f13)=true)
  (a14:PySem.W.findIn K (.ref C_Exam) "refuse_not_due"=some (some (.ref f14))) (i14:isFn K (.ref f14)=true) (l14:K.lookup f14=some (FnO "refuse_not_due" "Exam.refuse_not_due" s_37 oc14 od14 kV14 dc14 pm14 an14 cd14 ct14 sl14)) (c14:codeIn K cd14 "Exam.refuse_not_due"=true) (k14:keepIn K (.ref f14)=true)
  (a15:PySem.W.findIn K (.ref C_Exam) "points_for"=some (some (.ref f15))) (i15:isFn K (.ref f15)=true) (l15:K.lookup f15=some (FnO "points_for" "Exam.points_for" s_39 oc15 od15 kV15 dc15 pm15 an15 cd15 ct15 sl15)) (c15:codeIn K cd15 "Exam.points_for"=true) (k15:keepIn K (.ref f15)=true)
  (a16:nsIn K mainGlobals "agree"=some (some (.ref f16))) (l16:K.lookup f16=some (FnO "agree" "agree" s_15 oc16 od16 kV16 dc16 pm16 an16 cd16 ct16 sl16)) (c16:codeIn K cd16 "agree"=true) (k16:keepIn K (.ref f16)=true)
  (a17:PySem.W.findIn K (.ref C_Exam) "needs_third"=some (some (.ref f17))) (i17:isFn K (.ref f17)=true) (l17:K.lookup f17=some (FnO "needs_third" "Exam.needs_third" s_42 oc17 od17 kV17 dc17 pm17 an17 cd17 ct17 sl17)) (c17:codeIn K cd17 "Exam.needs_third"=true) (k17:keepIn K (.ref f17)=true)
  (a18:nsIn K mainGlobals "may_read"=some (some (.ref f18))) (l18:K.lookup f18=some (FnO "may_read" "may_read" s_1 oc18 od18 kV18 dc18 pm18 an18 cd18 ct18 sl18)) (c18:codeIn K cd18 "may_read"=true) (k18:keepIn K (.ref f18)=true)
  (a19:nsIn K mainGlobals "readers_for"=some (some (.ref f19))) (l19:K.lookup f19=some (FnO "readers_for" "readers_for" s_2 oc19 od19 kV19 dc19 pm19 an19 cd19 ct19 sl19)) (c19:codeIn K cd19 "readers_for"=true) (k19:keepIn K (.ref f19)=true)
  (a20:nsIn K mainGlobals "third_for"=some (some (.ref f20))) (l20:K.lookup f20=some (FnO "third_for" "third_for" s_19 oc20 od20 kV20 dc20 pm20 an20 cd20 ct20 sl20)) (c20:codeIn K cd20 "third_for"=true) (k20:keepIn K (.ref f20)=true)
  (a21:nsIn K mainGlobals "times_in"=some (some (.ref f21))) (l21:K.lookup f21=some (FnO "times_in" "times_in" s_9 oc21 od21 kV21 dc21 pm21 an21 cd21 ct21 sl21)) (c21:codeIn K cd21 "times_in"=true) (k21:keepIn K (.ref f21)=true)
  (a22:nsIn K mainGlobals "left_after"=some (some (.ref f22))) (l22:K.lookup f22=some (FnO "left_after" "left_after" s_8 oc22 od22 kV22 dc22 pm22 an22 cd22 ct22 sl22)) (c22:codeIn K cd22 "left_after"=true) (k22:keepIn K (.ref f22)=true)
  (a23:PySem.W.findIn K (.ref C_Exam) "left"=some (some (.ref f23))) (i23:isFn K (.ref f23)=true) (l23:K.lookup f23=some (FnO "left" "Exam.left" s_34 oc23 od23 kV23 dc23 pm23 an23 cd23 ct23 sl23)) (c23:codeIn K cd23 "Exam.left"=true) (k23:keepIn K (.ref f23)=true)
  (a24:PySem.W.findIn K (.ref C_Exam) "name_third"=some (some (.ref f24))) (i24:isFn K (.ref f24)=true) (l24:K.lookup f24=some (FnO "name_third" "Exam.name_third" s_41 oc24 od24 kV24 dc24 pm24 an24 cd24 ct24 sl24)) (c24:codeIn K cd24 "Exam.name_third"=true) (k24:keepIn K (.ref f24)=true)
  (a25:PySem.W.findIn K (.ref C_Exam) "enter"=some (some (.ref f25))) (i25:isFn K (.ref f25)=true) (l25:K.lookup f25=some (FnO "enter" "Exam.enter" s_25 oc25 od25 kV25 dc25 pm25 an25 cd25 ct25 sl25)) (c25:codeIn K cd25 "Exam.enter"=true) (k25:keepIn K (.ref f25)=true)
  (a26:nsIn K mainGlobals "_law_truth"=some (some (.ref f26))) (l26:K.lookup f26=some (FnO "_law_truth" "_law_truth" s_45 oc26 od26 kV26 dc26 pm26 an26 cd26 ct26 sl26)) (c26:codeIn K cd26 "_law_truth"=true) (k26:keepIn K (.ref f26)=true)
  (a27:nsIn K mainGlobals "pairs_of"=some (some (.ref f27))) (l27:K.lookup f27=some (FnO "pairs_of" "pairs_of" s_12 oc27 od27 kV27 dc27 pm27 an27 cd27 ct27 sl27)) (c27:codeIn K cd27 "pairs_of"=true) (k27:keepIn K (.ref f27)=true)
  (a28:nsIn K mainGlobals "keeps_to_limits"=some (some (.ref f28))) (l28:K.lookup f28=some (FnO "keeps_to_limits" "keeps_to_limits" s_7 oc28 od28 kV28 dc28 pm28 an28 cd28 ct28 sl28)) (c28:codeIn K cd28 "keeps_to_limits"=true) (k28:keepIn K (.ref f28)=true)
  (a29:PySem.W.findIn K (.ref C_Attempt) "__init__"=some (some (.ref f29))) (i29:isFn K (.ref f29)=true) (l29:K.lookup f29=some (FnO "__init__" "Attempt.__init__" s_Attempt___init__ oc29 od29 kV29 dc29 pm29 an29 cd29 ct29 sl29)) (c29:codeIn K cd29 "Attempt.__init__"=true) (k29:keepIn K (.ref f29)=true)
  (a30:PySem.W.findIn K (.ref C_Attempt) "free_reading"=some (some (.ref f30))) (i30:isFn K (.ref f30)=true) (l30:K.lookup f30=some (FnO "free_reading" "Attempt.free_reading" s_Attempt_free_reading oc30 od30 kV30 dc30 pm30 an30 cd30 ct30 sl30)) (c30:codeIn K cd30 "Attempt.free_reading"=true) (k30:keepIn K (.ref f30)=true)
  (a31:PySem.W.findIn K (.ref C_Attempt) "find_reader"=some (some (.ref f31))) (i31:isFn K (.ref f31)=true) (l31:K.lookup f31=some (FnO "find_reader" "Attempt.find_reader" s_Attempt_find_reader oc31 od31 kV31 dc31 pm31 an31 cd31 ct31 sl31)) (c31:codeIn K cd31 "Attempt.find_reader"=true) (k31:keepIn K (.ref f31)=true)
  (a32:nsIn K mainGlobals "readers_suffice"=some (some (.ref f32))) (l32:K.lookup f32=some (FnO "readers_suffice" "readers_suffice" s_3 oc32 od32 kV32 dc32 pm32 an32 cd32 ct32 sl32)) (c32:codeIn K cd32 "readers_suffice"=true) (k32:keepIn K (.ref f32)=true)
  (a33:nsIn K mainGlobals "with_limits"=some (some (.ref f33))) (l33:K.lookup f33=some (FnO "with_limits" "with_limits" s_14 oc33 od33 kV33 dc33 pm33 an33 cd33 ct33 sl33)) (c33:codeIn K cd33 "with_limits"=true) (k33:keepIn K (.ref f33)=true)
  (a34:nsIn K mainGlobals "can_go_on"=some (some (.ref f34))) (l34:K.lookup f34=some (FnO "can_go_on" "can_go_on" s_13 oc34 od34 kV34 dc34 pm34 an34 cd34 ct34 sl34)) (c34:codeIn K cd34 "can_go_on"=true) (k34:keepIn K (.ref f34)=true)
  (a35:nsIn K mainGlobals "first_row_behind"=some (some (.ref f35))) (l35:K.lookup f35=some (FnO "first_row_behind" "first_row_behind" s_11 oc35 od35 kV35 dc35 pm35 an35 cd35 ct35 sl35)) (c35:codeIn K cd35 "first_row_behind"=true) (k35:keepIn K (.ref f35)=true)
  (a36:nsIn K mainGlobals "first_dealing"=some (some (.ref f36))) (l36:K.lookup f36=some (FnO "first_dealing" "first_dealing" s_10 oc36 od36 kV36 dc36 pm36 an36 cd36 ct36 sl36)) (c36:codeIn K cd36 "first_dealing"=true) (k36:keepIn K (.ref f36)=true)
  (a37:PySem.W.findIn K (.ref C_Exam) "deal"=some (some (.ref f37))) (i37:isFn K (.ref f37)=true) (l37:K.lookup f37=some (FnO "deal" "Exam.deal" s_24 oc37 od37 kV37 dc37 pm37 an37 cd37 ct37 sl37)) (c37:codeIn K cd37 "Exam.deal"=true) (k37:keepIn K (.ref f37)=true)
  (a38:nsIn K mainGlobals "_law_bad"=some (some (.ref f38))) (l38:K.lookup f38=some (FnO "_law_bad" "_law_bad" s_50 oc38 od38 kV38 dc38 pm38 an38 cd38 ct38 sl38)) (c38:codeIn K cd38 "_law_bad"=true) (k38:keepIn K (.ref f38)=true)
  (a39:nsIn K mainGlobals "_law_do"=some (some (.ref f39))) (l39:K.lookup f39=some (FnO "_law_do" "_law_do" s_48 oc39 od39 kV39 dc39 pm39 an39 cd39 ct39 sl39)) (c39:codeIn K cd39 "_law_do"=true) (k39:keepIn K (.ref f39)=true)
  (a40:nsIn K mainGlobals "_law_kinds"=some (some (.ref f40))) (l40:K.lookup f40=some (FnO "_law_kinds" "_law_kinds" s_49 oc40 od40 kV40 dc40 pm40 an40 cd40 ct40 sl40)) (c40:codeIn K cd40 "_law_kinds"=true) (k40:keepIn K (.ref f40)=true)
  (a41:nsIn K mainGlobals "law"=some (some (.ref f41))) (l41:K.lookup f41=some (FnO "law" "law" s_51 oc41 od41 kV41 dc41 pm41 an41 cd41 ct41 sl41)) (c41:codeIn K cd41 "law"=true) (k41:keepIn K (.ref f41)=true)
  (z_ValueError:nsIn K mainGlobals "ValueError"=some none)
  (z_abs:nsIn K mainGlobals "abs"=some none)
  (z_all:nsIn K mainGlobals "all"=some none)
  (z_bool:nsIn K mainGlobals "bool"=some none)
  (z_enumerate:nsIn K mainGlobals "enumerate"=some none)
  (z_int:nsIn K mainGlobals "int"=some none)
  (z_isinstance:nsIn K mainGlobals "isinstance"=some none)
  (z_len:nsIn K mainGlobals "len"=some none)
  (z_list:nsIn K mainGlobals "list"=some none)
  (z_range:nsIn K mainGlobals "range"=some none)
  (z_zip:nsIn K mainGlobals "zip"=some none)
  (pg_Attempt:plainGet K C_Attempt Str.empty=true) (hd_Attempt:PySem.W.hasDictIn K C_Attempt=true) (po_Attempt:plainOver K C_Attempt=true) (sa_Attempt:PySem.W.findIn K (.ref C_Attempt) "__setattr__"=some (some (.builtin "object.__setattr__"))) (mk_Attempt:makesIn K C_Attempt=true) (kc_Attempt:keepIn K (.ref C_Attempt)=true)
  (n_Attempt_allowed:PySem.W.findIn K (.ref C_Attempt) "allowed"=some none)
  (n_Attempt_given:PySem.W.findIn K (.ref C_Attempt) "given"=some none)
  (n_Attempt_spare:PySem.W.findIn K (.ref C_Attempt) "spare"=some none)
  (pg_Exam:plainGet K C_Exam Str.empty=true) (hd_Exam:PySem.W.hasDictIn K C_Exam=true) (po_Exam:plainOver K C_Exam=true) (sa_Exam:PySem.W.findIn K (.ref C_Exam) "__setattr__"=some (some (.builtin "object.__setattr__"))) (mk_Exam:makesIn K C_Exam=true) (kc_Exam:keepIn K (.ref C_Exam)=true)
  (n_Exam_paper_houses:PySem.W.findIn K (.ref C_Exam) "paper_houses"=some none)
  (n_Exam_reader_rows:PySem.W.findIn K (.ref C_Exam) "reader_rows"=some none)
  (n_Exam_widest_step:PySem.W.findIn K (.ref C_Exam) "widest_step"=some none)
  (n_Exam_is_dealt:PySem.W.findIn K (.ref C_Exam) "is_dealt"=some none)
  (n_Exam_named_readers:PySem.W.findIn K (.ref C_Exam) "named_readers"=some none)
  (n_Exam_entered_points:PySem.W.findIn K (.ref C_Exam) "entered_points"=some none)
  (v_READERS_EACH:nsIn K mainGlobals "READERS_EACH"=some (some (.int 2 tk_READERS_EACH)))
  (v_MOST_HOUSES:nsIn K mainGlobals "MOST_HOUSES"=some (some (.int 6 tk_MOST_HOUSES)))
  (v_MOST_PAPERS:nsIn K mainGlobals "MOST_PAPERS"=some (some (.int 10 tk_MOST_PAPERS)))
  (v_MOST_LIMIT:nsIn K mainGlobals "MOST_LIMIT"=some (some (.int 30 tk_MOST_LIMIT)))
  (v_MOST_READERS:nsIn K mainGlobals "MOST_READERS"=some (some (.int 8 tk_MOST_READERS)))
  (v_MOST_STEP:nsIn K mainGlobals "MOST_STEP"=some (some (.int 100 tk_MOST_STEP)))
  (v_MOST_POINTS:nsIn K mainGlobals "MOST_POINTS"=some (some (.int 100 tk_MOST_POINTS)))
  (mx_OutOfTime:nsIn K mainGlobals "OutOfTime"=some (some (.ref X_OutOfTime)))
  (mx_UnknownNumber:nsIn K mainGlobals "UnknownNumber"=some (some (.ref X_UnknownNumber)))
  (mx_NotDue:nsIn K mainGlobals "NotDue"=some (some (.ref X_NotDue)))
  (mx_OutOfBounds:nsIn K mainGlobals "OutOfBounds"=some (some (.ref X_OutOfBounds)))
  (mx_Full:nsIn K mainGlobals "Full"=some (some (.ref X_Full)))
  (mx_ReadError:nsIn K mainGlobals "ReadError"=some (some (.ref X_ReadError)))
  (xc_OutOfTime:PySem.W.excIn K X_OutOfTime [.type "ValueError",.type "Exception",.type "BaseException",.type "object"] "ValueError.__new__"=true)
  (xc_UnknownNumber:PySem.W.excIn K X_UnknownNumber [.type "ValueError",.type "Exception",.type "BaseException",.type "object"] "ValueError.__new__"=true)
  (xc_NotDue:PySem.W.excIn K X_NotDue [.type "ValueError",.type "Exception",.type "BaseException",.type "object"] "ValueError.__new__"=true)
  (xc_OutOfBounds:PySem.W.excIn K X_OutOfBounds [.type "ValueError",.type "Exception",.type "BaseException",.type "object"] "ValueError.__new__"=true)
  (xc_Full:PySem.W.excIn K X_Full [.type "ValueError",.type "Exception",.type "BaseException",.type "object"] "ValueError.__new__"=true)
  (x_OutOfTime_ReadError:PySem.W.exmOne K (.ref X_OutOfTime) (.ref X_ReadError)=some true)
  (x_UnknownNumber_ReadError:PySem.W.exmOne K (.ref X_UnknownNumber) (.ref X_ReadError)=some true)
  (x_NotDue_ReadError:PySem.W.exmOne K (.ref X_NotDue) (.ref X_ReadError)=some true)
  (x_OutOfBounds_ReadError:PySem.W.exmOne K (.ref X_OutOfBounds) (.ref X_ReadError)=some true)
  (x_Full_ReadError:PySem.W.exmOne K (.ref X_Full) (.ref X_ReadError)=some true)
  (qga_OutOfTime:PySem.W.findIn K (.ref X_OutOfTime) "__getattribute__"=some (some (.builtin "BaseException.__getattribute__")))
  (qgt_OutOfTime:PySem.W.findIn K (.ref X_OutOfTime) "__getattr__"=some none)
  (qcl_OutOfTime:PySem.W.findIn K (.ref X_OutOfTime) "__class__"=some (some (.builtin "object.__class__")))
  (qbe_OutOfTime:PySem.W.mroIn K X_OutOfTime (.type "BaseException")=some true)
  (qob_OutOfTime:PySem.W.mroIn K X_OutOfTime (.type "object")=some true)
  (qha_OutOfTime:PySem.W.hasDictIn K X_OutOfTime=true)
  (qve_OutOfTime:PySem.W.mroIn K X_OutOfTime (.type "ValueError")=some true)
  (qsf_OutOfTime:PySem.W.mroIn K X_OutOfTime (.ref X_OutOfTime)=some true)
  (qty_OutOfTime:PySem.W.typeIn K (.ref X_OutOfTime)=some (.type "type"))
  (qga_UnknownNumber:PySem.W.findIn K (.ref X_UnknownNumber) "__getattribute__"=some (some (.builtin "BaseException.__getattribute__")))
  (qgt_UnknownNumber:PySem.W.findIn K (.ref X_UnknownNumber) "__getattr__"=some none)
  (qcl_UnknownNumber:PySem.W.findIn K (.ref X_UnknownNumber) "__class__"=some (some (.builtin "object.__class__")))
  (qbe_UnknownNumber:PySem.W.mroIn K X_UnknownNumber (.type "BaseException")=some true)
  (qob_UnknownNumber:PySem.W.mroIn K X_UnknownNumber (.type "object")=some true)
  (qha_UnknownNumber:PySem.W.hasDictIn K X_UnknownNumber=true)
  (qve_UnknownNumber:PySem.W.mroIn K X_UnknownNumber (.type "ValueError")=some true)
  (qsf_UnknownNumber:PySem.W.mroIn K X_UnknownNumber (.ref X_UnknownNumber)=some true)
  (qty_UnknownNumber:PySem.W.typeIn K (.ref X_UnknownNumber)=some (.type "type"))
  (qga_NotDue:PySem.W.findIn K (.ref X_NotDue) "__getattribute__"=some (some (.builtin "BaseException.__getattribute__")))
  (qgt_NotDue:PySem.W.findIn K (.ref X_NotDue) "__getattr__"=some none)
  (qcl_NotDue:PySem.W.findIn K (.ref X_NotDue) "__class__"=some (some (.builtin "object.__class__")))
  (qbe_NotDue:PySem.W.mroIn K X_NotDue (.type "BaseException")=some true)
  (qob_NotDue:PySem.W.mroIn K X_NotDue (.type "object")=some true)
  (qha_NotDue:PySem.W.hasDictIn K X_NotDue=true)
  (qve_NotDue:PySem.W.mroIn K X_NotDue (.type "ValueError")=some true)
  (qsf_NotDue:PySem.W.mroIn K X_NotDue (.ref X_NotDue)=some true)
  (qty_NotDue:PySem.W.typeIn K (.ref X_NotDue)=some (.type "type"))
  (qga_OutOfBounds:PySem.W.findIn K (.ref X_OutOfBounds) "__getattribute__"=some (some (.builtin "BaseException.__getattribute__")))
  (qgt_OutOfBounds:PySem.W.findIn K (.ref X_OutOfBounds) "__getattr__"=some none)
  (qcl_OutOfBounds:PySem.W.findIn K (.ref X_OutOfBounds) "__class__"=some (some (.builtin "object.__class__")))
  (qbe_OutOfBounds:PySem.W.mroIn K X_OutOfBounds (.type "BaseException")=some true)
  (qob_OutOfBounds:PySem.W.mroIn K X_OutOfBounds (.type "object")=some true)
  (qha_OutOfBounds:PySem.W.hasDictIn K X_OutOfBounds=true)
  (qve_OutOfBounds:PySem.W.mroIn K X_OutOfBounds (.type "ValueError")=some true)
  (qsf_OutOfBounds:PySem.W.mroIn K X_OutOfBounds (.ref X_OutOfBounds)=some true)
  (qty_OutOfBounds:PySem.W.typeIn K (.ref X_OutOfBounds)=some (.type "type"))
  (qga_Full:PySem.W.findIn K (.ref X_Full) "__getattribute__"=some (some (.builtin "BaseException.__getattribute__")))
  (qgt_Full:PySem.W.findIn K (.ref X_Full) "__getattr__"=some none)
  (qcl_Full:PySem.W.findIn K (.ref X_Full) "__class__"=some (some (.builtin "object.__class__")))
  (qbe_Full:PySem.W.mroIn K X_Full (.type "BaseException")=some true)
  (qob_Full:PySem.W.mroIn K X_Full (.type "object")=some true)
  (qha_Full:PySem.W.hasDictIn K X_Full=true)
  (qve_Full:PySem.W.mroIn K X_Full (.type "ValueError")=some true)
  (qsf_Full:PySem.W.mroIn K X_Full (.ref X_Full)=some true)
  (qty_Full:PySem.W.typeIn K (.ref X_Full)=some (.type "type"))
  (i_OutOfTime_UnknownNumber:PySem.W.mroIn K X_OutOfTime (.ref X_UnknownNumber)=some false)
  (i_OutOfTime_NotDue:PySem.W.mroIn K X_OutOfTime (.ref X_NotDue)=some false)
  (i_OutOfTime_OutOfBounds:PySem.W.mroIn K X_OutOfTime (.ref X_OutOfBounds)=some false)
  (i_OutOfTime_Full:PySem.W.mroIn K X_OutOfTime (.ref X_Full)=some false)
  (i_UnknownNumber_OutOfTime:PySem.W.mroIn K X_UnknownNumber (.ref X_OutOfTime)=some false)
  (i_UnknownNumber_NotDue:PySem.W.mroIn K X_UnknownNumber (.ref X_NotDue)=some false)
  (i_UnknownNumber_OutOfBounds:PySem.W.mroIn K X_UnknownNumber (.ref X_OutOfBounds)=some false)
  (i_UnknownNumber_Full:PySem.W.mroIn K X_UnknownNumber (.ref X_Full)=some false)
  (i_NotDue_OutOfTime:PySem.W.mroIn K X_NotDue (.ref X_OutOfTime)=some false)
  (i_NotDue_UnknownNumber:PySem.W.mroIn K X_NotDue (.ref X_UnknownNumber)=some false)
  (i_NotDue_OutOfBounds:PySem.W.mroIn K X_NotDue (.ref X_OutOfBounds)=some false)
  (i_NotDue_Full:PySem.W.mroIn K X_NotDue (.ref X_Full)=some false)
  (i_OutOfBounds_OutOfTime:PySem.W.mroIn K X_OutOfBounds (.ref X_OutOfTime)=some false)
  (i_OutOfBounds_UnknownNumber:PySem.W.mroIn K X_OutOfBounds (.ref X_UnknownNumber)=some false)
  (i_OutOfBounds_NotDue:PySem.W.mroIn K X_OutOfBounds (.ref X_NotDue)=some false)
  (i_OutOfBounds_Full:PySem.W.mroIn K X_OutOfBounds (.ref X_Full)=some false)
  (i_Full_OutOfTime:PySem.W.mroIn K X_Full (.ref X_OutOfTime)=some false)
  (i_Full_UnknownNumber:PySem.W.mroIn K X_Full (.ref X_UnknownNumber)=some false)
  (i_Full_NotDue:PySem.W.mroIn K X_Full (.ref X_NotDue)=some false)
  (i_Full_OutOfBounds:PySem.W.mroIn K X_Full (.ref X_OutOfBounds)=some false)
  : ∃ fd:FuncData,(∀ (s:Shared) (v:Value),BindsTo s fd ⟨[v],[]⟩ [("_law_script",v)])∧∀ base:Heap,K.In base→base.Ns mainGlobals mg→FnOk l.prog w K mg base CX0 25 fa fd ["_law_script"] (zfl K):=by
 have e:=hfa.symm.trans (mg_of X G a41)
 cases e
 have F0:=zaB (st:=s_43) l0 c0 k0;have F1:=zaB (st:=s_20) l1 c1 k1;have F2:=zaB (st:=s_35) l2 c2 k2;have F3:=zaB (st:=s_17) l3 c3 k3;have F4:=zaB (st:=s_23) l4 c4 k4;have F5:=zaB (st:=s_16) l5 c5 k5;have F6:=zaB (st:=s_18) l6 c6 k6;have F7:=zaB (st:=s_21) l7 c7 k7;have F8:=zaB (st:=s_22) l8 c8 k8;have F9:=zaB (st:=s_47) l9 c9 k9;have F10:=zaB (st:=s_44) l10 c10 k10;have F11:=zaB (st:=s_46) l11 c11 k11;have F12:=zaB (st:=s_36) l12 c12 k12;have F13:=zaB (st:=s_38) l13 c13 k13;have F14:=zaB (st:=s_37) l14 c14 k14;have F15:=zaB (st:=s_39) l15 c15 k15;have F16:=zaB (st:=s_15) l16 c16 k16;have F17:=zaB (st:=s_42) l17 c17 k17;have F18:=zaB (st:=s_1) l18 c18 k18;have F19:=zaB (st:=s_2) l19 c19 k19;have F20:=zaB (st:=s_19) l20 c20 k20;have F21:=zaB (st:=s_9) l21 c21 k21;have F22:=zaB (st:=s_8) l22 c22 k22;have F23:=zaB (st:=s_34) l23 c23 k23;have F24:=zaB (st:=s_41) l24 c24 k24;have F25:=zaB (st:=s_25) l25 c25 k25;have F26:=zaB (st:=s_45) l26 c26 k26;have F27:=zaB (st:=s_12) l27 c27 k27;have F28:=zaB (st:=s_7) l28 c28 k28;have F29:=zaB (st:=s_Attempt___init__) l29 c29 k29;have F30:=zaB (st:=s_Attempt_free_reading) l30 c30 k30;have F31:=zaB (st:=s_Attempt_find_reader) l31 c31 k31;have F32:=zaB (st:=s_3) l32 c32 k32;have F33:=zaB (st:=s_14) l33 c33 k33;have F34:=zaB (st:=s_13) l34 c34 k34;have F35:=zaB (st:=s_11) l35 c35 k35;have F36:=zaB (st:=s_10) l36 c36 k36;have F37:=zaB (st:=s_24) l37 c37 k37;have F38:=zaB (st:=s_50) l38 c38 k38;have F39:=zaB (st:=s_48) l39 c39 k39;have F40:=zaB (st:=s_49) l40 c40 k40;have F41:=zaB (st:=s_51) l41 c41 k41;have T:Txt K mg ⟨_,_,_,_,_,_,_,_,_,_,_,_,_,_,_,_,_,_,_,_,_,_,_,_,_,_,_,_,_,_,_,_,_,_,_,_,_,_,_,_,_,_,_,_,_,_,_,_,_,_,_,_,_,_,_,_,_,_,_,_,_,_,_,_,_,_,_,_,_,_,_,_,_,_,_,_,_,_,_,_,_,_,_,_,_,_,_,_,_,_,_,_,_,⟨X_OutOfTime,X_UnknownNumber,X_NotDue,X_OutOfBounds,X_Full,X_ReadError⟩⟩:=⟨F0,F0.binds (ps:=["_law_script","_law_k"]) (fun _ _ _ _ _ _ us hl=>match us,hl with | [_,_],_=>rfl),mg_of X G a0,F1,F1.binds (ps:=["self"]) (fun _ _ _ _ _ _ us hl=>match us,hl with | [_],_=>rfl),⟨mk_Exam,a1,i1,kc_Exam⟩,F2,F2.binds (ps:=["self"]) (fun _ _ _ _ _ _ us hl=>match us,hl with | [_],_=>rfl),⟨a2,i2,k2⟩,F3,F3.binds (ps:=["number","most"]) (fun _ _ _ _ _ _ us hl=>match us,hl with | [_,_],_=>rfl),mg_of X G a3,F4,F4.binds (ps:=["self","step"]) (fun _ _ _ _ _ _ us hl=>match us,hl with | [_,_],_=>rfl),⟨a4,i4,k4⟩,F5,F5.binds (ps:=["number","least","most"]) (fun _ _ _ _ _ _ us hl=>match us,hl with | [_,_,_],_=>rfl),mg_of X G a5,F6,F6.binds (ps:=["many","most"]) (fun _ _ _ _ _ _ us hl=>match us,hl with | [_,_],_=>rfl),mg_of X G a6,F7,F7.binds (ps:=["self","house"]) (fun _ _ _ _ _ _ us hl=>match us,hl with | [_,_],_=>rfl),⟨a7,i7,k7⟩,F8,F8.binds (ps:=["self","house","limit"]) (fun _ _ _ _ _ _ us hl=>match us,hl with | [_,_,_],_=>rfl),⟨a8,i8,k8⟩,F9,F9.binds (ps:=["_law_homes","_law_staff","_law_step","_law_turn"]) (fun _ _ _ _ _ _ us hl=>match us,hl with | [_,_,_,_],_=>rfl),mg_of X G a9,F10,F10.binds (ps:=["_law_found"]) (fun _ _ _ _ _ _ us hl=>match us,hl with | [_],_=>rfl),mg_of X G a10,F11,F11.binds (ps:=["_law_found","_law_due"]) (fun _ _ _ _ _ _ us hl=>match us,hl with | [_,_],_=>rfl),mg_of X G a11,F12,F12.binds (ps:=["self"]) (fun _ _ _ _ _ _ us hl=>match us,hl with | [_],_=>rfl),⟨a12,i12,k12⟩,F13,F13.binds (ps:=["self","paper"]) (fun _ _ _ _ _ _ us hl=>match us,hl with | [_,_],_=>rfl),⟨a13,i13,k13⟩,F14,F14.binds (ps:=["self","paper","reader"]) (fun _ _ _ _ _ _ us hl=>match us,hl with | [_,_,_],_=>rfl),⟨a14,i14,k14⟩,F15,F15.binds (ps:=["self","paper"]) (fun _ _ _ _ _ _ us hl=>match us,hl with | [_,_],_=>rfl),⟨a15,i15,k15⟩,F16,F16.binds (ps:=["one","other","step"]) (fun _ _ _ _ _ _ us hl=>match us,hl with | [_,_,_],_=>rfl),mg_of X G a16,F17,F17.binds (ps:=["self","paper"]) (fun _ _ _ _ _ _ us hl=>match us,hl with | [_,_],_=>rfl),⟨a17,i17,k17⟩,F18,F18.binds (ps:=["papers","readers","paper","reader"]) (fun _ _ _ _ _ _ us hl=>match us,hl with | [_,_,_,_],_=>rfl),mg_of X G a18,F19,F19.binds (ps:=["papers","readers","paper"]) (fun _ _ _ _ _ _ us hl=>match us,hl with | [_,_,_],_=>rfl),mg_of X G a19,F20,F20.binds (ps:=["papers","readers","left","paper","row"]) (fun _ _ _ _ _ _ us hl=>match us,hl with | [_,_,_,_,_],_=>rfl),mg_of X G a20,F21,F21.binds (ps:=["rows","reader"]) (fun _ _ _ _ _ _ us hl=>match us,hl with | [_,_],_=>rfl),mg_of X G a21,F22,F22.binds (ps:=["readers","rows"]) (fun _ _ _ _ _ _ us hl=>match us,hl with | [_,_],_=>rfl),mg_of X G a22,F23,F23.binds (ps:=["self"]) (fun _ _ _ _ _ _ us hl=>match us,hl with | [_],_=>rfl),⟨a23,i23,k23⟩,F24,F24.binds (ps:=["self","paper"]) (fun _ _ _ _ _ _ us hl=>match us,hl with | [_,_],_=>rfl),⟨a24,i24,k24⟩,F25,F25.binds (ps:=["self","paper","reader","points"]) (fun _ _ _ _ _ _ us hl=>match us,hl with | [_,_,_,_],_=>rfl),⟨a25,i25,k25⟩,F26,F26.binds (ps:=["_law_found","_law_due"]) (fun _ _ _ _ _ _ us hl=>match us,hl with | [_,_],_=>rfl),mg_of X G a26,F27,F27.binds (ps:=["numbers"]) (fun _ _ _ _ _ _ us hl=>match us,hl with | [_],_=>rfl),mg_of X G a27,F28,F28.binds (ps:=["readers","rows"]) (fun _ _ _ _ _ _ us hl=>match us,hl with | [_,_],_=>rfl),mg_of X G a28,F29,F29.binds (ps:=["self","papers","readers"]) (fun _ _ _ _ _ _ us hl=>match us,hl with | [_,_,_],_=>rfl),⟨mk_Attempt,a29,i29,kc_Attempt⟩,F30,F30.binds (ps:=["self","reader","asked"]) (fun _ _ _ _ _ _ us hl=>match us,hl with | [_,_,_],_=>rfl),⟨a30,i30,k30⟩,F31,F31.binds (ps:=["self","paper","asked"]) (fun _ _ _ _ _ _ us hl=>match us,hl with | [_,_,_],_=>rfl),⟨a31,i31,k31⟩,F32,F32.binds (ps:=["papers","readers"]) (fun _ _ _ _ _ _ us hl=>match us,hl with | [_,_],_=>rfl),mg_of X G a32,F33,F33.binds (ps:=["readers","limits"]) (fun _ _ _ _ _ _ us hl=>match us,hl with | [_,_],_=>rfl),mg_of X G a33,F34,F34.binds (ps:=["papers","readers","rows"]) (fun _ _ _ _ _ _ us hl=>match us,hl with | [_,_,_],_=>rfl),mg_of X G a34,F35,F35.binds (ps:=["papers","readers","rows"]) (fun _ _ _ _ _ _ us hl=>match us,hl with | [_,_,_],_=>rfl),mg_of X G a35,F36,F36.binds (ps:=["papers","readers"]) (fun _ _ _ _ _ _ us hl=>match us,hl with | [_,_],_=>rfl),mg_of X G a36,F37,F37.binds (ps:=["self"]) (fun _ _ _ _ _ _ us hl=>match us,hl with | [_],_=>rfl),⟨a37,i37,k37⟩,F38,F38.binds (ps:=["_law_kind","_law_dealt","_law_cell","_law_homes","_law_count"]) (fun _ _ _ _ _ _ us hl=>match us,hl with | [_,_,_,_,_],_=>rfl),mg_of X G a38,F39,F39.binds (ps:=["_law_exam_here","_law_todo"]) (fun _ _ _ _ _ _ us hl=>match us,hl with | [_,_],_=>rfl),mg_of X G a39,F40,F40.binds (ps:=["_law_exam_here","_law_todo"]) (fun _ _ _ _ _ _ us hl=>match us,hl with | [_,_],_=>rfl),mg_of X G a40,F41,F41.binds (ps:=["_law_script"]) (fun _ _ _ _ _ _ us hl=>match us,hl with | [_],_=>rfl),mg_of X G a41,⟨pg_Attempt,hd_Attempt,po_Attempt,sa_Attempt⟩,mg_of X G aC_Attempt,n_Attempt_allowed,n_Attempt_given,n_Attempt_spare,⟨pg_Exam,hd_Exam,po_Exam,sa_Exam⟩,mg_of X G aC_Exam,n_Exam_paper_houses,n_Exam_reader_rows,n_Exam_widest_step,n_Exam_is_dealt,n_Exam_named_readers,n_Exam_entered_points,mg_of X G v_READERS_EACH,⟨_,rfl⟩,mg_of X G v_MOST_HOUSES,⟨_,rfl⟩,mg_of X G v_MOST_PAPERS,⟨_,rfl⟩,mg_of X G v_MOST_LIMIT,⟨_,rfl⟩,mg_of X G v_MOST_READERS,⟨_,rfl⟩,mg_of X G v_MOST_STEP,⟨_,rfl⟩,mg_of X G v_MOST_POINTS,⟨_,rfl⟩,mg_of X G mx_OutOfTime,mg_of X G mx_UnknownNumber,mg_of X G mx_NotDue,mg_of X G mx_OutOfBounds,mg_of X G mx_Full,mg_of X G mx_ReadError,xc_OutOfTime,xc_UnknownNumber,xc_NotDue,xc_OutOfBounds,xc_Full,x_OutOfTime_ReadError,x_UnknownNumber_ReadError,x_NotDue_ReadError,x_OutOfBounds_ReadError,x_Full_ReadError,⟨qga_OutOfTime,qgt_OutOfTime,qcl_OutOfTime,qbe_OutOfTime,qob_OutOfTime,qha_OutOfTime,qve_OutOfTime,qsf_OutOfTime,qty_OutOfTime⟩,⟨qga_UnknownNumber,qgt_UnknownNumber,qcl_UnknownNumber,qbe_UnknownNumber,qob_UnknownNumber,qha_UnknownNumber,qve_UnknownNumber,qsf_UnknownNumber,qty_UnknownNumber⟩,⟨qga_NotDue,qgt_NotDue,qcl_NotDue,qbe_NotDue,qob_NotDue,qha_NotDue,qve_NotDue,qsf_NotDue,qty_NotDue⟩,⟨qga_OutOfBounds,qgt_OutOfBounds,qcl_OutOfBounds,qbe_OutOfBounds,qob_OutOfBounds,qha_OutOfBounds,qve_OutOfBounds,qsf_OutOfBounds,qty_OutOfBounds⟩,⟨qga_Full,qgt_Full,qcl_Full,qbe_Full,qob_Full,qha_Full,qve_Full,qsf_Full,qty_Full⟩,i_OutOfTime_UnknownNumber,i_OutOfTime_NotDue,i_OutOfTime_OutOfBounds,i_OutOfTime_Full,i_UnknownNumber_OutOfTime,i_UnknownNumber_NotDue,i_UnknownNumber_OutOfBounds,i_UnknownNumber_Full,i_NotDue_OutOfTime,i_NotDue_UnknownNumber,i_NotDue_OutOfBounds,i_NotDue_Full,i_OutOfBounds_OutOfTime,i_OutOfBounds_UnknownNumber,i_OutOfBounds_NotDue,i_OutOfBounds_Full,i_Full_OutOfTime,i_Full_UnknownNumber,i_Full_NotDue,i_Full_OutOfBounds,mg_none_of X G z_ValueError,mg_none_of X G z_abs,mg_none_of X G z_all,mg_none_of X G z_bool,mg_none_of X G z_enumerate,mg_none_of X G z_int,mg_none_of X G z_isinstance,mg_none_of X G z_len,mg_none_of X G z_list,mg_none_of X G z_range,mg_none_of X G z_zip⟩;exact ⟨_,fun s v=>.of_eq rfl,fun base _ _=>zlz T⟩
theorem walk {l:PySem.W.OpenLaw} {q:Program} {loose:List Str} {XP:(Str→Option Value)→Heap→Prop} {YP:World→Heap→Prop} {d:DefRec} {K:Params→PySem.W.Frag} (hn:l.most=some 63) (hdf:d.params.defaults=[])
  (hY:∀ (w:World) (h:Heap),YP w h→(K w.params).In h)
  (F:∀ (w:World) (mg:Str→Option Value) (fa:Addr) (h:Heap),(K w.params).In h→h.Ns mainGlobals mg→mg d.name=some (.ref fa) →
   ∃ fd:FuncData,(∀ (s:Shared) (u:Value),BindsTo s fd ⟨[u],[]⟩ [("_law_script",u)])∧∀ base:Heap,(K w.params).In base→base.Ns mainGlobals mg→FnOk l.prog w (K w.params) mg base CX0 25 fa fd ["_law_script"] (zfl (K w.params))) :
  PySem.W.WalkO q loose XP YP l.row.toRowW d [] (fun f vs=>PySem.call f vs) :=
 L2.zjH (n:=63) (k:=25) (x:="_law_script") (CX:=fun _=>CX0) (sp:=fun w=>zfl (K w.params)) hn (by decide) hdf ⟨rfl,by decide,by decide⟩ hY F (fun _ H a ns hl hO hS=>law_start hl hS) fun _ _ _ _ _ z=>z
end Prf
set_option genInjectivity false in
set_option genSizeOf false in
structure PySem.W.Fast:Prop where
 (tw12284463013569230592 tw1174381357099995311 tw7528246674741575380 tw14453501849757515691 tw14487871453193781639 tw9773932962575305885 tw8518449043859825763 tw9830794342540477766 tw10820116247995066583 tw6139649607876890632 tw18152537835173282627 tw16058142289146843860 tw1216781755730462174 tw14495684597182570795 tw1479806858950905390 tw11846369452481060568 tw9306192861175342699 tw11271551581164548217 tw3320437532345744113 tw17114786201776844296 tw14758133912911573898 tw7400902906585844422 tw16942075501664590199 tw11386739050298424837 tw14623086968345140341 tw3778194109566292191 tw12040959886113545494 tw11398670023874104164 tw6506349134823518233 tw14896058504221838782 tw9602189266670837640 tw11130351867034354546 tw10380437446840503805 tw10740844449970728491 tw11699982185286841480 tw12665327325493445999 tw1709461858662184970 tw497381833589365496 tw4651281240682996477 tw11073115588555935171:True)
 (tw3017268827753297522 tw9976654274081204503 tw13078127510853470462 tw9231746369391047766 tw16635841930131156936 tw9437803001012911919 tw15738505810836375663 tw11005426784716401741 tw4586989263410223095 tw14690273122623271662 tw3484281111910961480 tw9301592986687231898 tw2123141146926209374 tw16284991224308046071 tw6714090309308531707 tw2710726550291970530 tw16164016359500235461 tw1647311083020829327 tw10861548618508327584 tw1505182285494251753 tw17111274561155347144 tw2206516268479616987 tw4003573395798404927 tw15591531930105758198 tw6445002294620314100 tw645335804976727455 tw17519303465455352333 tw16288132062327947440 tw8138351053710866775 tw3013854313861111143 tw15300557270808203323 tw13109816180927000340 tw1826566558350557605 tw7649266866400637251 tw16648709147811599822 tw16651164315559104111 tw11432016267437660022 tw7789899507043671102 tw333783746248668216 tw10035962766160024862:True)
 (tw14036104727173899411 tw3464876422460531336 tw18036158756385529262 tw17439015984970840441 tw2219757716303207405 tw8216761937716673846 tw2669668269419993572 tw1395600058901116763 tw15390384275401645701 tw9854162656798177006 tw6667784336304961211 tw15665369876238277046 tw5634973376895059309 tw17175360900109848425 tw8671489285893845113 tw13609858011005637262 tw5260821451259131548 tw5847794129160502275 tw10633369651727826108 tw13700206773286226836 tw79118559511625787 tw8070156123429317219 tw11949801455034070419 tw4555630945165313887 tw4421202461605997683 tw15001381345612964022 tw18304224640905863974 tw9392452702242186867 tw8686120575764487726 tw14505140349686084121 tw10624018005255089069 tw13549206695996265342 tw3665523042243698202 tw11340287707040104541 tw1990584742402513982 tw731044721492574947 tw12182583535376612207 tw8865260542708342520 tw3393923441759698333 tw3640194227255333594:True)
 (tw18039138392942456977 tw16871340122948829158 tw4088800645548031536 tw10939586622069711818 tw9335906740671221620 tw5354178938831868905 tw9390950079039189272 tw9233788236460800133 tw16421512374235578528 tw8263895154719488092 tw2443396142543798632 tw14134983107286449330 tw17130708873870740027 tw9867864940179000960 tw13634923999214464034 tw15336517186262143913 tw16689266910070806981 tw3360039510810358729 tw6050036381017924562 tw1381140850482099778 tw14511438869686791359 tw2044648853920575297 tw1889372149213279746 tw8231226832762640911 tw7366009557202980472 tw10029059960262969580 tw17439849425539209837 tw9634375402663380461 tw1743948322826738992 tw15489693190213398027 tw15147771721910998140 tw8261438210199378424 tw10967199763370518323 tw15502062443636527264 tw16638263408609245859 tw1823504393987917794 tw15341960637283297822 tw1928414285667615970 tw10304112092680324236 tw15865992044700187716:True)
 (tw7370224394216416717 tw5480080780109915717 tw1106955127680454925 tw3368562078821864976 tw5254092509920226951 tw15340853030766962190 tw1888304414102155019 tw13714791332506590794 tw18254081624263518372 tw11183643753745155896 tw12973446459736977929 tw12349908292573428801 tw10009685240104037360 tw1069668429749610726 tw1182699394661378072 tw2213983947544070452 tw11211955843768567825 tw12128029738259484558 tw6134910408090594097 tw393647316351439479 tw16851498544965242465 tw17660444339311045122 tw4766712798074899036 tw7439816448764139828 tw7836586368660933531 tw11877614279861683259 tw9336219002197822413 tw2187885002073459591 tw9982279646763083868 tw7304116172141406501 tw1000469323571417020 tw3707153234004832813 tw885997893946682994 tw3520196560159554198 tw6170430088234831542 tw12100575566226099945 tw17591665933517742399 tw176543321842446004 tw3566794875865912260 tw3510346836960397111:True)
 (tw18398286795991673247 tw12903691283563960527 tw9936492189993806249 tw9410957637596054806 tw10902499716669365841 tw16983606738983770261 tw8371163564274402623 tw6527168250155869749 tw321904573605662189 tw5273278838089008227 tw12014648794668873590 tw17907310981870608488 tw7406919645971043874 tw2809342274165760534 tw17093366860230620153 tw1388882948754009965 tw12552789379200566262 tw7160921789065148373 tw6557495425144491873 tw12961789455158943857 tw16619329125516322454 tw3171753162886146501 tw7891983038673309076 tw14566626315881812401 tw18395642282460288543 tw5117159608820800823 tw7040694498833100171 tw12769512336572525761 tw5272702031884339151 tw3412236698738725300 tw3292316249872026511 tw2017543286238195684 tw7817547973924488310 tw3351051844868409484 tw15276345213174164200 tw1111581355359532079 tw11179636530728108763 tw1709317354402206850 tw12099932610115394632 tw4046892311623349319:True)
 (tw2948624050762226152 tw16011570425590552258 tw11695978232901008215 tw12793968931902830283 tw17095758574459083197 tw415589810910043018 tw15785673441826156320 tw6724161649654795439 tw9767630764337031350 tw15195153449605032044 tw13382213092446527872 tw12516764818547322793 tw11261429348570005953 tw18231168867960744935 tw9432754843218827089 tw1123561006385579580 tw5154542364868188795 tw9787407767321334530 tw2159499282975603557 tw2966387289942796189 tw8194284431759266355 tw12453965795053168447 tw11816955404607938478 tw3454031740862264086 tw16440406669402117654 tw5301042756993987548 tw6824858994472517600 tw17681632530603928864 tw422212684086334646 tw12980761873538544586 tw16693110427153088912 tw545582551315025259 tw5792326305526017165 tw3086698871102984127 tw3747893371392273975 tw5050311129646057943 tw9926844970737616008 tw15374950333551953383 tw1592778989842719176 tw5118386275720359884:True)
 (tw7954452533786171303 tw17903381846902383849 tw15992683310522758526 tw785230640375322037 tw11708862859647196827 tw11770862287230575106 tw7608576758752149828 tw6111452110191915895 tw5026014594854713389 tw409242704365082626 tw5834492462542212964 tw1578579302815169066 tw13492882160069101035 tw17430672121061588011 tw17120173626986990022 tw12516903723707309503 tw5220678054686581012 tw2469468320901329693 tw15437719920542027336 tw7799837063613199791 tw7837888683484712775 tw2009185784065751170 tw16672691183147298356 tw7003988948527969735 tw2613785217002496647 tw17654107959748467464 tw14590573858522095461 tw9650624378599855996 tw7844657512143582532 tw10294404122619737198 tw11216595424731388198 tw14617669557855477999 tw10508134696736046582 tw14303271387418738293 tw1691050830218317063 tw9315292813424147186 tw7587569170558181856 tw4523036322654112119 tw10484916135669775139 tw18173038618440874581:True)
 (tw13774395920722263704 tw2497762709920419974 tw17985310656256732749 tw281964483683603006 tw2760139610057277568 tw1793297607746593151 tw12332933191034794047 tw1091274991848790798 tw17184532386318935511 tw17262828362714336561 tw7549742712106836514 tw10214624730299258132 tw9038176866272827409 tw7656823526191662559 tw9596162625495979178 tw2014745213974606380 tw6476071356002553312 tw8728508586118351299 tw16878476308067231315 tw15055484937182018086 tw7544731829015475602 tw4348107698170051242 tw5378843122094282648 tw9340730659074854829 tw17438602663977698568 tw15982658525320223891 tw11089968002525379322 tw5075733061966313041 tw126179157247915127 tw8885924140997126274 tw12790312167889502416 tw13685723829316633160 tw4875836061240890394 tw13709678849276528935 tw16587475588250355947 tw15640487029376338249 tw5901696409198448569 tw5090117530768082004 tw7275774611359934622 tw14537947832726466776:True)
 (tw6690773866860160098 tw11893701306086249547 tw17418428867093934430 tw15806162094015519958 tw11426795361152109745 tw15508193746104810157 tw8872111017064321788 tw16312350718209108601 tw9622607139378339102 tw14321746219043223872 tw8486042072767981782 tw5950019741939616670 tw9937757660782192715 tw3849873160695543183 tw4717684356044617411 tw15115634893432528022 tw3159577540906982430 tw9575105585560867022 tw15141130283525418630 tw3819603188073282921 tw4795987042222238037 tw16869824609124223190 tw6557474443896627171 tw16505911182162757508 tw3292875013617214251 tw9779029020957227891 tw18328552985354813433 tw2905158855454194713 tw17074413526176471321 tw10377779674657543496 tw2487965974084148758 tw14093584954061120626 tw2611301269013156186 tw7067524137253316246 tw5130645740458230458 tw17981973906833680212 tw12113443778256435659 tw5027124728815709589 tw11182706062589136661 tw16080969508358815433:True)
 (tw3483904894254813479 tw559616442308414471 tw6345750802959570297 tw4136075120942365784 tw12603995610202740102 tw9139544413325216889 tw6216053729836687101 tw13990319852170159889 tw7826062954745492813 tw7714842154240653314 tw5549694519183112459 tw15116049433127177721 tw9542321366235117446 tw10301696960586100495 tw7622205789880109306 tw4633066059151685472 tw13228300411489795123 tw7123336345409986182 tw12789730451053161805 tw18421208866106384312 tw12413721259602996197 tw7587303907688371152 tw6898847003787333292 tw9637653993369326555 tw9376682363040786011 tw10897216770853529915 tw16948945681789998451 tw11837497852807576403 tw7035666067286010406 tw10764982567162500543 tw12237188074533806572 tw3306306261878186390 tw1328997581815242318 tw9377498143682190269 tw1291220976361521466 tw10864014209222781648 tw14539901577394812721 tw10156760979800125371 tw121113552267351761 tw14988075586349087862:True)
 (tw11600436534999024912 tw11021845486361797149 tw13025840698405923615 tw8484908639302441454 tw8661191844150294212 tw2032912791843873739 tw12546355038956864295 tw12479289245859134027 tw13802409663918786523 tw4211224063619480681 tw774032906662306197 tw10574071517291952111 tw10030323788730786793 tw6287215886048937883 tw3310680536876046478 tw9268175207487236683 tw9186248823563259471 tw7982518928770360204 tw16113003445753436605 tw847779333726855974 tw2808023050207161259 tw14388291792136890526 tw7002339532443318439 tw2423430415163413623 tw9755226476729754741 tw6153394002611543325 tw11040548850458623562 tw5362398599631613995 tw11354230344970357367 tw7019163610540755248 tw16749548643846548504 tw4640880067097872994 tw3362878540689511518 tw11633248241568850531 tw17501262774934726702 tw1930320823173833501 tw10583660357908805729 tw10200171416699272873 tw14005599185955820480 tw11733154206556466631:True)
 (tw5616363631806162033 tw14887382690738506346 tw10632751219860154480 tw11238933060600177385 tw4024766561551021592 tw10007078609185390362 tw6577390508794999912 tw16607674236779052814 tw14433388243541792275 tw4300258437725237314 tw13610026023464191038 tw10426179097265523892 tw17133760658048102680 tw7502679586264440524 tw14241074749109743554 tw17541430050820205685 tw870447680110258545 tw9414000120930438612 tw17461400525024551026 tw10557668933059565838 tw3056741157274112078 tw10773319270600052989 tw12708286803110050615 tw2998871906081205411 tw17626225194792309301 tw4647697397334408619 tw16649289955305195445 tw2353504231276675681 tw7779755173582121918 tw16032131746933563615 tw5763099667000818738 tw10448623328302572551 tw7345397068196004017 tw6034579973905246228 tw6854914165398474224 tw13771907335529939805 tw11657962410229897535 tw1264653803279994618 tw15353886850336429388 tw18355646697231313566:True)
 (tw13096952167089413898 tw3906926537029529625 tw7041456239198677475 tw10235027803723687957 tw15041260397593731737 tw17405333082834312258 tw13611781223171134224 tw437390773154453493 tw12367670996876814636 tw1236763793973444475 tw1383126320868411540 tw3864164505864130648 tw1198934536228545413 tw8792001556195384745 tw17412654963736048737 tw15610561111354707299 tw3405804716828887162 tw4612910575533097572 tw5394840558329266886 tw5567999090323319540 tw4247698833777398525 tw3340330296658572515 tw12912570262986161547 tw18200508232628582295 tw2461652045430099441 tw8905256723127487961 tw2784028548244347809 tw11514579934962061744 tw9777122148513407052 tw15295664895405586049 tw7331726639536169792 tw16385393547062816598 tw3515840718484989216 tw14090386899445590738 tw5240676735703666522 tw14334241218352737185 tw4588320813105663493 tw4537546493794488345 tw5647093151557418333 tw10821040466217006832:True)
 (tw11671777578723534078 tw13733980558959839097 tw13223291327168034786 tw6981541263839701433 tw18104246960971719416 tw2541209649418329622 tw2836632448811530168 tw14774853579719657784 tw14525878268730727851 tw2864047986888908531 tw12856513676439630802 tw6903939106498236098 tw4170580508384218399 tw8841507361352013244 tw8120614793689690788 tw11553677373700575069 tw15207519852716830161 tw12460593914699210540 tw5019982612578215190 tw8657199545007869274 tw6385798869312867765 tw5451938768006170512 tw6300261637841291046 tw16799318882864508901 tw16167429830762786792:True)
open PySem PySem.W PyProof.Rows
set_option maxRecDepth 100000 in
set_option maxHeartbeats 0 in
theorem PySem.Challenge.cw_secondread_k29_classes_holds : PySem.Challenge.rw_secondread_k29_classes.Holds := by
 w_on;o_law;k_head;(case hw=>w_witness2)
 k_fill
 refine Prf.walk (l:=PySem.Challenge.rw_secondread_k29_classes) rfl rfl (fun w h Y=>kIn_of Y) ?F
 case F =>
  intro w mg fa h KX G hmg;refine' Prf.zlA KX G hmg ?aC_Attempt ?aC_Exam ?a0 ?l0 ?c0 ?k0 ?a1 ?i1 ?l1 ?c1 ?k1 ?a2 ?i2 ?l2 ?c2 ?k2 ?a3 ?l3 ?c3 ?k3 ?a4 ?i4 ?l4 ?c4 ?k4 ?a5 ?l5 ?c5 ?k5 ?a6 ?l6 ?c6 ?k6 ?a7 ?i7 ?l7 ?c7 ?k7 ?a8 ?i8 ?l8 ?c8 ?k8 ?a9 ?l9 ?c9 ?k9 ?a10 ?l10 ?c10 ?k10 ?a11 ?l11 ?c11 ?k11 ?a12 ?i12 ?l12 ?c12 ?k12 ?a13 ?i13 ?l13 ?c13 ?k13 ?a14 ?i14 ?l14 ?c14 ?k14 ?a15 ?i15 ?l15 ?c15 ?k15 ?a16 ?l16 ?c16 ?k16 ?a17 ?i17 ?l17 ?c17 ?k17 ?a18 ?l18 ?c18 ?k18 ?a19 ?l19 ?c19 ?k19 ?a20 ?l20 ?c20 ?k20 ?a21 ?l21 ?c21 ?k21 ?a22 ?l22 ?c22 ?k22 ?a23 ?i23 ?l23 ?c23 ?k23 ?a24 ?i24 ?l24 ?c24 ?k24 ?a25 ?i25 ?l25 ?c25 ?k25 ?a26 ?l26 ?c26 ?k26 ?a27 ?l27 ?c27 ?k27 ?a28 ?l28 ?c28 ?k28 ?a29 ?i29 ?l29 ?c29 ?k29 ?a30 ?i30 ?l30 ?c30 ?k30 ?a31 ?i31 ?l31 ?c31 ?k31 ?a32 ?l32 ?c32 ?k32 ?a33 ?l33 ?c33 ?k33 ?a34 ?l34 ?c34 ?k34 ?a35 ?l35 ?c35 ?k35 ?a36 ?l36 ?c36 ?k36 ?a37 ?i37 ?l37 ?c37 ?k37 ?a38 ?l38 ?c38 ?k38 ?a39 ?l39 ?c39 ?k39 ?a40 ?l40 ?c40 ?k40 ?a41 ?l41 ?c41 ?k41 ?pg_Attempt ?hd_Attempt ?po_Attempt ?sa_Attempt ?mk_Attempt ?kc_Attempt ?n_Attempt_allowed ?n_Attempt_given ?n_Attempt_spare ?pg_Exam ?hd_Exam ?po_Exam ?sa_Exam ?mk_Exam ?kc_Exam ?n_Exam_paper_houses ?n_Exam_reader_rows ?n_Exam_widest_step ?n_Exam_is_dealt ?n_Exam_named_readers ?n_Exam_entered_points ?v_READERS_EACH ?v_MOST_HOUSES ?v_MOST_PAPERS ?v_MOST_LIMIT ?v_MOST_READERS ?v_MOST_STEP ?v_MOST_POINTS ?mx_OutOfTime ?mx_UnknownNumber ?mx_NotDue ?mx_OutOfBounds ?mx_Full ?mx_ReadError ?xc_OutOfTime ?xc_UnknownNumber ?xc_NotDue ?xc_OutOfBounds ?xc_Full ?x_OutOfTime_ReadError ?x_UnknownNumber_ReadError ?x_NotDue_ReadError ?x_OutOfBounds_ReadError ?x_Full_ReadError ?qga_OutOfTime ?qgt_OutOfTime ?qcl_OutOfTime ?qbe_OutOfTime ?qob_OutOfTime ?qha_OutOfTime ?qve_OutOfTime ?qsf_OutOfTime ?qty_OutOfTime ?qga_UnknownNumber ?qgt_UnknownNumber ?qcl_UnknownNumber ?qbe_UnknownNumber ?qob_UnknownNumber ?qha_UnknownNumber ?qve_UnknownNumber ?qsf_UnknownNumber ?qty_UnknownNumber ?qga_NotDue ?qgt_NotDue ?qcl_NotDue ?qbe_NotDue ?qob_NotDue ?qha_NotDue ?qve_NotDue ?qsf_NotDue ?qty_NotDue ?qga_OutOfBounds ?qgt_OutOfBounds ?qcl_OutOfBounds ?qbe_OutOfBounds ?qob_OutOfBounds ?qha_OutOfBounds ?qve_OutOfBounds ?qsf_OutOfBounds ?qty_OutOfBounds ?qga_Full ?qgt_Full ?qcl_Full ?qbe_Full ?qob_Full ?qha_Full ?qve_Full ?qsf_Full ?qty_Full ?i_OutOfTime_UnknownNumber ?i_OutOfTime_NotDue ?i_OutOfTime_OutOfBounds ?i_OutOfTime_Full ?i_UnknownNumber_OutOfTime ?i_UnknownNumber_NotDue ?i_UnknownNumber_OutOfBounds ?i_UnknownNumber_Full ?i_NotDue_OutOfTime ?i_NotDue_UnknownNumber ?i_NotDue_OutOfBounds ?i_NotDue_Full ?i_OutOfBounds_OutOfTime ?i_OutOfBounds_UnknownNumber ?i_OutOfBounds_NotDue ?i_OutOfBounds_Full ?i_Full_OutOfTime ?i_Full_UnknownNumber ?i_Full_NotDue ?i_Full_OutOfBounds ?z_ValueError ?z_abs ?z_all ?z_bool ?z_enumerate ?z_int ?z_isinstance ?z_len ?z_list ?z_range ?z_zip
  (case aC_Attempt=>k_is)
  (case aC_Exam=>k_is)
  (case mx_OutOfTime=>k_is)
  (case mx_UnknownNumber=>k_is)
  (case mx_NotDue=>k_is)
  (case mx_OutOfBounds=>k_is)
  (case mx_Full=>k_is)
  (case mx_ReadError=>k_is)
  all_goals (try k_is)
  all_goals (first | k_is | k_exc | kts_exm)
