import PyProof.Rows.All
import Wide.All
import OpenK.AllK
import Wide.FinOn
import Lean
import PyProof.EqAt
import PyProof.EqKinds
import PyProof.TupleCall
import PyProof.NeKinds
import PySem.Challenge.RW_secondread_k43_whole_disputes
set_option Elab.async false
set_option linter.all false
set_option maxRecDepth 100000
set_option maxHeartbeats 4000000
local macro_rules | `(tactic| trivial) => `(tactic| first | exact ⟨rfl,rfl,rfl,by decide +kernel,rfl,by decide +kernel,by decide +kernel⟩ | fail)
abbrev LI:=List (List Int)
open List (length_map getD_eq_getElem?_getD getElem?_eq_getElem mem_cons length_append length_range getElem?_map length_cons mem_range mem_cons_of_mem mem_append size_toArray mem_map map_append mem_filter map_cons all_eq_true length_take not_mem_nil mem_cons_self filter_cons length_set length_singleton mem_append_right nodup_cons nodup_append map_map mem_singleton length_nil getElem_mem take_of_length_le append_nil getElem?_append_right eq_nil_of_length_eq_zero getElem_of_mem pairwise_cons take_add_one take_length mem_append_left length_drop length_filter_le range_succ nodup_nil ext_getElem filter_map mem_of_getElem? length_replicate all_cons any_cons find?_cons lookup_cons filter_append foldl_cons filter_eq_self getD_cons_zero filter_congr map_congr_left append_assoc getElem_inj map_nil range_succ_eq_map any_eq_true pairwise_map sum_cons map_take of_mem_zip all_map all_nil getElem_map take_zero map_id map_drop)
open PySem.W (keepIn fnOf codeIn nsIn mg_of findIn isFn mg_none_of kia_one emptyDict instObj plainGet hasDictIn lookIn plainOver makesIn kitOne methodObj plainGet_of takerIn callWith_K handedIn kitx_list kitx_dict methodCall_KW callWith_K0 cellsFrom_some typeIn mroIn kIn_of)
open Nat (zero_le lt_succ_of_lt le_succ le_add_right lt_succ_self)
local macro_rules | `(tactic| omega)=>`(tactic| lia)
namespace L2
open PySem PySem.Spec PyProof.Rows
abbrev Key:=Sum Int Str
def keyIs:Key→Value→Bool
 | .inl k,v=>Value.isInt k v
 | .inr x,v=>Value.isStrOf x v
def keyH (w:World):Key→Int
 | .inl k=>hashInt k
 | .inr x=>hashStr w x
theorem keyIs_shape:∀ {k:Key} {v:Value},keyIs k v=true→(∃ i t,k=Sum.inl i∧v=Value.int i t)∨(∃ x t,k=Sum.inr x∧v=Value.str x t)
 | .inl i,v,h=>by
   obtain ⟨t,e⟩:=Value.isInt_shape (k:=i) (v:=v) h;exact .inl ⟨i,t,rfl,e⟩
 | .inr x,v,h=>by
   obtain ⟨t,e⟩:=Value.isStrOf_shape (x:=x) (v:=v) h;exact .inr ⟨x,t,rfl,e⟩
theorem zja (i:Int) (t:Tok):keyIs (.inl i) (.int i t)=true:=by simp [keyIs,Value.isInt]
theorem zjb (x:Str) (t:Tok):keyIs (.inr x) (.str x t)=true:=by simp [keyIs,Value.isStrOf]
theorem zmC (a b:Int):decide ((Sum.inl a:Key)=Sum.inl b)=(a == b):=by
 by_cases e:a=b
 ·subst e;simp
 ·have h:¬(Sum.inl a:Key)=Sum.inl b:=fun q=>e (Sum.inl.inj q);rw [decide_eq_false h];exact (beq_eq_false_iff_ne.mpr e).symm
theorem zmD (a b:Str):decide ((Sum.inr a:Key)=Sum.inr b)=decide (a=b):=by
 by_cases e:a=b
 ·subst e;simp
 ·have h:¬(Sum.inr a:Key)=Sum.inr b:=fun q=>e (Sum.inr.inj q);rw [decide_eq_false h,decide_eq_false e]
theorem zmE (a:Int) (b:Str):decide ((Sum.inl a:Key)=Sum.inr b)=false:=decide_eq_false (fun q=>nomatch q)
theorem zmF (a:Str) (b:Int):decide ((Sum.inr a:Key)=Sum.inl b)=false:=decide_eq_false (fun q=>nomatch q)
def zbI (prog:Program) (w:World):PySem.KeyKind prog w Key where
 is:=keyIs
 hash:=keyH w
 inj:=fun v a b ha hb=>by
  rcases keyIs_shape ha with ⟨i,t,rfl,rfl⟩ | ⟨x,t,rfl,rfl⟩
  ·rcases keyIs_shape hb with ⟨j,u,rfl,e⟩ | ⟨y,u,rfl,e⟩
   ·injection e with e1 _;rw [e1]
   ·exact nomatch e
  ·rcases keyIs_shape hb with ⟨j,u,rfl,e⟩ | ⟨y,u,rfl,e⟩
   ·exact nomatch e
   ·injection e with e1 _;rw [e1]
 byValue:=fun k v h=>by
  rcases keyIs_shape h with ⟨i,t,rfl,rfl⟩ | ⟨x,t,rfl,rfl⟩ <;> rfl
 pyHash:=fun hv h=>by
  rcases keyIs_shape hv with ⟨i,t,rfl,rfl⟩ | ⟨x,t,rfl,rfl⟩
  ·exact wpAny_pyHash_int h
  ·exact wpAny_pyHash_str h
 eqBool:=fun hu hv h=>by
  rcases keyIs_shape hu with ⟨i,t,rfl,rfl⟩ | ⟨x,t,rfl,rfl⟩
  ·rcases keyIs_shape hv with ⟨j,u,rfl,rfl⟩ | ⟨y,u,rfl,rfl⟩
   ·rw [zmC] at h;exact wpAny_eqBool_int h
   ·rw [zmE] at h;exact SeqAt.EqAt.int_str i t y u _ _ _ _ h
  ·rcases keyIs_shape hv with ⟨j,u,rfl,rfl⟩ | ⟨y,u,rfl,rfl⟩
   ·rw [zmF] at h;exact SeqAt.EqAt.str_int x t j u _ _ _ _ h
   ·rw [zmD] at h;exact wpAny_eqBool_str h
 «strs»:=fun k x t v h=>by
  rcases keyIs_shape h with ⟨i,u,rfl,e⟩ | ⟨y,u,rfl,e⟩
  ·exact nomatch e
  ·injection e with e1 _;subst e1
   cases v <;> rfl
theorem zg7 (prog:Program) (w:World) (i:Int) (t:Tok):(zbI prog w).is (.inl i) (.int i t)=true:=zja i t
theorem zg8 (prog:Program) (w:World) (x:Str) (t:Tok):(zbI prog w).is (.inr x) (.str x t)=true:=zjb x t
end L2
namespace L2
open PySem PySem.Spec PyProof.Rows
inductive V where
 | non | bl (b:Bool) | int (i:Int) | str (x:Str) | byt (b:Array UInt8) | flt (b:UInt64) | ref (a:Addr) | ty (n:String)
 deriving DecidableEq
def RelV:V→Value→Prop
 | .non,u=>u=Value.none
 | .bl b,u=>u=Value.bool b
 | .int i,u=>∃ t,u=Value.int i t
 | .str x,u=>∃ t,u=Value.str x t
 | .byt b,u=>∃ t,u=Value.bytes b t
 | .flt b,u=>∃ t,u=Value.float b t
 | .ref a,u=>u=Value.ref a
 | .ty n,u=>u=Value.type n
abbrev Vals:List V→List Value→Prop:=Paired RelV
theorem Vals.length {xs:List V} {us:List Value} (r:Vals xs us):xs.length=us.length:=Paired.length r
theorem Vals.get:∀ {xs:List V} {us:List Value} {i:Nat} {x:V},Vals xs us→xs[i]? = some x→∃ u,us[i]? = some u∧RelV x u
 | _,_,_,_,.nil,e=>by simp at e
 | _,_,0,_,.cons r _,e=>by simp at e;subst e;exact ⟨_,rfl,r⟩
 | _,_,i+1,x,.cons _ t,e=>by
   obtain ⟨u,h1,h2⟩:=Vals.get (i:=i) (x:=x) t (by simpa using e);exact ⟨u,by simpa using h1,h2⟩
theorem Vals.set {x:V} {u:Value} (r:RelV x u):∀ {xs:List V} {us:List Value} (i:Nat),Vals xs us→Vals (xs.set i x) (us.set i u)
 | _,_,_,.nil=>.nil
 | _,_,0,.cons _ t=>.cons r t
 | _,_,i+1,.cons q t=>.cons q (Vals.set r i t)
theorem Vals.append:∀ {xs ys:List V} {us ws:List Value},Vals xs us→Vals ys ws→Vals (xs++ys) (us++ws)
 | _,_,_,_,.nil,s=>s
 | _,_,_,_,.cons r t,s=>.cons r (Vals.append t s)
theorem Vals.take:∀ {xs:List V} {us:List Value} (n:Nat),Vals xs us→Vals (xs.take n) (us.take n)
 | _,_,0,_=>.nil
 | _,_,_+1,.nil=>.nil
 | _,_,n+1,.cons r t=>.cons r (Vals.take n t)
theorem Vals.drop:∀ {xs:List V} {us:List Value} (n:Nat),Vals xs us→Vals (xs.drop n) (us.drop n)
 | _,_,0,r=>r
 | _,_,_+1,.nil=>.nil
 | _,_,n+1,.cons _ t=>Vals.drop n t
def RelO:Option V→Option Value→Prop
 | some v,some u=>RelV v u
 | none,none=>True
 | _,_=>False
def KV {κ:Type}:List (κ×V)→List (κ×Value)→Prop:=Paired fun (p:κ×V) (q:κ×Value)=>p.1=q.1∧RelV p.2 q.2
def kV:Key→V
 | .inl i=>.int i
 | .inr x=>.str x
inductive HO where
 | lst (xs:List V)
 | tup (xs:List V)
 | dK (kvs:List (Key×V)) | dT (kvs:List (List Key×V))
 | set (S:Int→Bool) (n:Nat)
 | ins (C dx:Addr) (fs:List (Str×V))
 | own (x:Addr)
 | xd (fs:List (Str×V))
 | met (f x:Addr)
 | rng (lo hi:Int)
 | frz (o:Obj) (u:HO)
 | tbl (ps:Array Value)
 | ext (φ:Heap→Prop)
abbrev Hp:=Addr→Option HO
def upd (H:Hp) (a:Addr) (o:HO):Hp:=fun b=>if b=a then some o else H b
theorem zaz {H:Hp} {a:Addr} {o:HO}:upd H a o a=some o:=by unfold upd;rw [if_pos rfl]
theorem zaR {H:Hp} {a b:Addr} {o:HO} (h:b≠a):upd H a o b=H b:=by unfold upd;rw [if_neg h]
theorem zlG {H:Hp} {a:Addr} {o u:HO}:upd (upd H a o) a u=upd H a u:=by
 funext b;unfold upd;split <;> rfl
theorem zn4 {H:Hp} {a b:Addr} {o u:HO} (h:H a=some o) (h':H b=some u) (d:o≠u):a≠b:=by
 intro e;subst e;rw [h] at h';exact d (Option.some.inj h')
theorem zaj {H:Hp} {a b:Addr} {o:HO} (h:H a=some o) (h':H b=none):a≠b:=by
 intro e;subst e;rw [h] at h';cases h'
section
variable (P:Program) (w:World)
def zbV (H:Hp) (h:Heap) (a:Addr):HO→Prop
 | .lst xs=>xs.length≤sizeLine∧∃ (its:List Value) (n:Nat),Vals xs its∧h.get? a=some { cls:=.type "list",data:=.seq its.toArray n }
 | .tup xs=>xs.length≤sizeLine∧∃ its:List Value,Vals xs its∧IsTup h a its.toArray
 | .dK kvs=>kvs.length≤sizeLine∧(a == sysModules)=false∧∃ vs,KV kvs vs∧h.DictOf (zbI P w) a vs
 | .dT kvs=>kvs.length≤sizeLine∧(a == sysModules)=false∧∃ xs:List (List Key×Addr×Value),
    Paired (fun (p:List Key×V) (q:List Key×Addr×Value)=>p.1=q.1∧H q.2.1=some (.tup (p.1.map kV))∧RelV p.2 q.2.2) kvs xs ∧
    ∃ o es ep,h.get? a=some o∧o.ExactDict∧o.data=.dict es ep∧es.toList=xs.map (entryOfKey (tupleKind (zbI P w)))∧(xs.map (·.1)).Nodup
 | .set S n=>h.SetOf (intKind P w) a S n
 | .ins C dx fs=>H dx=some (.own a)∧fs.length≤1000∧dx≠a∧h.get? a=some (instObj C dx) ∧
    ∃ mA,h.Ns1 dx mA∧(∀ f,RelO (fs.lookup f) (mA f))∧PySem.Within mA (fs.map (·.1))
 | .own _=>∃ o,h.get? a=some o
 | .xd fs=>∃ mA,h.Ns1 a mA∧∀ f,RelO (fs.lookup f) (mA f)
 | .rng lo hi=>∃ t u v,h.get? a=some { cls:=.type "range",data:=.fields #[.int lo t,.int hi u,.int 1 v] }
 | .frz o u=>h.get? a=some o∧zbV H h a u
 | .tbl ps=>h.get? a=some { cls:=.none,data:=.fields ps }
 | .met f x=>h.get? a=some (methodObj (.ref f) (.ref x))
 | .ext φ=>φ h∧(∃ o,h.get? a=some o)∧∀ h1 h2:Heap,φ h1→(∀ o,h1.get? a=some o→h2.get? a=some o)→φ h2
def HOk (H:Hp) (h:Heap):Prop:=∀ a o,H a=some o→zbV P w H h a o
end
section
variable {P:Program} {w:World} {H H':Hp} {h h':Heap} {a:Addr} {o:HO}
theorem zbV.lt (x:zbV P w H h a o):a < h.objs.size:=by
 cases o with
 | lst xs=>obtain ⟨_,_,_,_,e⟩:=x;exact Heap.lt_size e
 | tup xs=>obtain ⟨_,_,_,p⟩:=x;exact p.lt
 | dK kvs=>obtain ⟨_,_,_,_,o,_,_,e,_⟩:=x;exact Heap.lt_size e
 | dT kvs=>obtain ⟨_,_,_,_,o,_,_,e,_⟩:=x;exact Heap.lt_size e
 | set S n=>obtain ⟨o,_,_,_,e,_⟩:=x;exact Heap.lt_size e
 | ins C dx fs=>obtain ⟨_,_,_,e,_⟩:=x;exact Heap.lt_size e
 | own y=>obtain ⟨_,e⟩:=x;exact Heap.lt_size e
 | xd fs=>obtain ⟨_,⟨_,_,_,e,_⟩,_⟩:=x;exact Heap.lt_size e
 | rng lo hi=>obtain ⟨_,_,_,e⟩:=x;exact Heap.lt_size e
 | frz ob u=>obtain ⟨e,_⟩:=x;exact Heap.lt_size e
 | tbl ps=>exact Heap.lt_size (show h.get? a=some _ from x)
 | met f y=>exact Heap.lt_size (show h.get? a=some _ from x)
 | ext φ=>obtain ⟨_,⟨_,e⟩,_⟩:=x;exact Heap.lt_size e
theorem Paired.mapP {α β:Type} {F G:α→β→Prop}:∀ {l₁:List α} {l₂:List β},Paired F l₁ l₂→(∀ a b,F a b→G a b)→Paired G l₁ l₂
 | _,_,.nil,_=>.nil
 | _,_,.cons r t,f=>.cons (f _ _ r) (Paired.mapP t f)
theorem zbV.stay (x:zbV P w H h a o) (k:∀ b u,(b=a∨H b=some (.own a))→h.get? b=some u→h'.get? b=some u)
  (ho:∀ b,H b=some (.own a)→H' b=some (.own a)) (ht:∀ b xs,H b=some (.tup xs)→H' b=some (.tup xs)):zbV P w H' h' a o:=by
 induction o with
 | lst xs=>obtain ⟨z,its,n,r,e⟩:=x;exact ⟨z,its,n,r,k _ _ (.inl rfl) e⟩
 | tup xs=>obtain ⟨z,its,r,ob,e,c⟩:=x;exact ⟨z,its,r,ob,k _ _ (.inl rfl) e,c⟩
 | dK kvs=>obtain ⟨z,y,vs,r,ob,es,ep,e,c⟩:=x;exact ⟨z,y,vs,r,ob,es,ep,k _ _ (.inl rfl) e,c⟩
 | dT kvs =>
   obtain ⟨z,y,xs,r,ob,es,ep,e,c⟩:=x;exact ⟨z,y,xs,Paired.mapP r fun p q z=>⟨z.1,ht _ _ z.2.1,z.2.2⟩,ob,es,ep,k _ _ (.inl rfl) e,c⟩
 | set S n=>obtain ⟨ob,es,ep,t,e,c⟩:=x;exact ⟨ob,es,ep,t,k _ _ (.inl rfl) e,c⟩
 | ins C dx fs =>
   obtain ⟨d,z,ne,e,mA,⟨od,es,ep,e2,c⟩,r⟩:=x;exact ⟨ho _ d,z,ne,k _ _ (.inl rfl) e,mA,⟨od,es,ep,k _ _ (.inr d) e2,c⟩,r⟩
 | own y=>obtain ⟨ob,e⟩:=x;exact ⟨ob,k _ _ (.inl rfl) e⟩
 | xd fs=>obtain ⟨mA,⟨od,es,ep,e,c⟩,r⟩:=x;exact ⟨mA,⟨od,es,ep,k _ _ (.inl rfl) e,c⟩,r⟩
 | rng lo hi=>obtain ⟨t,u,v,e⟩:=x;exact ⟨t,u,v,k _ _ (.inl rfl) e⟩
 | frz ob u ih=>obtain ⟨e,q⟩:=x;exact ⟨k _ _ (.inl rfl) e,ih q⟩
 | tbl ps =>
   have e:h.get? a=some { cls:=.none,data:=.fields ps }:=x;show h'.get? a=some { cls:=.none,data:=.fields ps };exact k a _ (.inl rfl) e
 | met f y =>
   have e:h.get? a=some (methodObj (.ref f) (.ref y)):=x;show h'.get? a=some (methodObj (.ref f) (.ref y));exact k a _ (.inl rfl) e
 | ext φ=>obtain ⟨p,⟨o,e⟩,st⟩:=x;exact ⟨st _ _ p fun o q=>k _ _ (.inl rfl) q,⟨o,k _ _ (.inl rfl) e⟩,st⟩
theorem HOk.lt (x:HOk P w H h) (e:H a=some o):a < h.objs.size:=(x a o e).lt
theorem HOk.fresh (x:HOk P w H h) (e:h.objs.size≤a):H a=none:=by
 cases q:H a with
 | none=>rfl
 | some u=>exact absurd (Nat.lt_of_lt_of_le (x.lt q) e) (Nat.lt_irrefl _)
theorem HOk.kept (x:HOk P w H h) (k:∀ b u,h.get? b=some u→h'.get? b=some u):HOk P w H h':=fun a o e =>
 (x a o e).stay (fun b u _ q=>k b u q) (fun _ q=>q) fun _ _ q=>q
theorem HOk.laid (x:HOk P w H h) (k:∀ b u,h.get? b=some u→h'.get? b=some u) (hp:h.objs.size≤a) (new:zbV P w (upd H a o) h' a o):HOk P w (upd H a o) h':=fun b u e=>by
 have hn:=x.fresh hp
 by_cases hb:b=a
 ·subst hb;rw [zaz] at e;cases e;exact new
 ·rw [zaR hb] at e;exact (x b u e).stay (fun c v _ q=>k c v q) (fun c q=>by rw [zaR (zaj q hn)];exact q) fun c xs q=>by rw [zaR (zaj q hn)];exact q
end
def Rd (H:Hp) (a:Addr) (u:HO):Prop:=H a=some u∨∃ o,H a=some (.frz o u)
theorem Rd.ok {P:Program} {w:World} {H:Hp} {h:Heap} {a:Addr} {u:HO} (r:Rd H a u) (x:HOk P w H h):zbV P w H h a u:=by
 rcases r with r | ⟨o,r⟩
 ·exact x a u r
 ·obtain ⟨_,q⟩:=x a _ r;exact q
def Mut:Option HO→Prop
 | some (.lst _)=>True
 | some (.dK _)=>True
 | some (.dT _)=>True
 | some (.set _ _)=>True
 | some (.ins _ _ _)=>True
 | some (.ext _)=>True
 | _=>False
section
variable {P:Program} {w:World} {H:Hp} {h h':Heap} {x e:Addr} {o':HO}
theorem HOk.write (ok:HOk P w H h) (mu:Mut (H x)) (he:e=x∨H e=some (.own x)) (k:∀ b u,b≠e→h.get? b=some u→h'.get? b=some u) (heo:∃ u,h'.get? e=some u)
  (new:zbV P w (upd H x o') h' x o'):HOk P w (upd H x o') h':=fun b u q=>by
 have nown:∀ c y,H c=some (.own y)→c≠x:=fun c y r z=>by subst z;rw [r] at mu;exact mu
 have ntup:∀ c xs,H c=some (.tup xs)→c≠x:=fun c xs r z=>by subst z;rw [r] at mu;exact mu
 by_cases hb:b=x
 ·subst hb;rw [zaz] at q;cases q;exact new
 ·rw [zaR hb] at q
  by_cases hbe:b=e
  ·have q':H b=some (.own x):=by
    rcases he with z | z
    ·exact absurd (hbe.trans z) hb
    ·rw [hbe];exact z
   rw [q] at q';cases q'
   obtain ⟨v,hv⟩:=heo;exact ⟨v,by rw [hbe];exact hv⟩
  ·refine (ok b u q).stay (fun c v hc r=>k c v ?_ r) (fun c r=>by rw [zaR (nown c b r)];exact r) fun c xs r=>by rw [zaR (ntup c xs r)];exact r
   rcases hc with rfl | hc
   ·exact hbe
   ·rintro rfl;rcases he with z | z
    ·exact nown c b hc z
    ·rw [hc] at z;cases z;exact hb rfl
end
structure Un (fs ex:List Addr) (H H':Hp) (h h':Heap):Prop where
 keep:∀ b o,h.get? b=some o→H b=none→b∉fs→b∉ex→h'.get? b=some o
 slot:∀ b o,h.get? b=some o→H b=none→b∈fs→b∉ex→∃ sl,h'.get? b=some { o with slots:=sl }
 free:∀ b o,h.get? b=some o→H b=none→b∉ex→H' b=none
 there:∀ b o,h.get? b=some o→b∉ex→∃ o',h'.get? b=some o'
 tups:∀ b xs,H b=some (.tup xs)→H' b=some (.tup xs)
 frzs:∀ b o u,H b=some (.frz o u)→H' b=some (.frz o u)
 tbls:∀ b ps,H b=some (.tbl ps)→∃ more,H' b=some (.tbl (ps++more))
section
variable {fs fs' ex ex':List Addr} {H H1 H2:Hp} {h h1 h2 h':Heap} {a x e:Addr} {o:HO}
theorem Un.any (u:Un fs ex H H1 h h1) {b:Addr} {ob:Obj} (q:h.get? b=some ob) (n:H b=none) (hx:b∉ex):∃ sl,h1.get? b=some { ob with slots:=sl }:=by
 by_cases hb:b∈fs
 ·exact u.slot b ob q n hb hx
 ·exact ⟨ob.slots,u.keep b ob q n hb hx⟩
theorem Un.kept (k:∀ b u,h.get? b=some u→h'.get? b=some u):Un fs ex H H h h' :=
 ⟨fun b ob q _ _ _=>k b ob q,fun b ob q _ _ _=>⟨ob.slots,k b ob q⟩,fun _ _ _ n _=>n,fun b ob q _=>⟨ob,k b ob q⟩,fun _ _ q=>q,fun _ _ _ q=>q,fun _ ps q=>⟨#[],by rw [q];simp⟩⟩
theorem Un.refl:Un fs ex H H h h:=Un.kept fun _ _ q=>q
theorem Un.laid (k:∀ b u,h.get? b=some u→h'.get? b=some u) (hp:h.objs.size≤a) (hn:H a=none):Un fs ex H (upd H a o) h h' where
 keep:=fun b u q _ _ _=>k b u q
 slot:=fun b u q _ _ _=>⟨u.slots,k b u q⟩
 free:=fun b u q n _=>by rw [zaR (Nat.ne_of_lt (Nat.lt_of_lt_of_le (Heap.lt_size q) hp))];exact n
 there:=fun b u q _=>⟨u,k b u q⟩
 tups:=fun b xs q=>by rw [zaR (zaj q hn)];exact q
 frzs:=fun b u xs q=>by rw [zaR (zaj q hn)];exact q
 tbls:=fun b ps q=>⟨#[],by rw [zaR (zaj q hn),q];simp⟩
theorem Un.write (mu:Mut (H x)) (he:e=x∨H e=some (.own x)) (k:∀ b u,b≠e→h.get? b=some u→h'.get? b=some u) (heo:∃ u,h'.get? e=some u):Un fs ex H (upd H x o) h h':=by
 have hx:∀ b,H b=none→b≠x:=fun b n z=>by subst z;rw [n] at mu;exact mu
 have hb:∀ b,H b=none→b≠e:=fun b n z=>by
  subst z;rcases he with r | r
  ·exact hx b n r
  ·rw [n] at r;cases r
 have hm:∀ b u,H b=some u→¬Mut (some u)→b≠x:=fun b u q nm z=>by subst z;rw [q] at mu;exact nm mu
 refine ⟨fun b u q n _ _=>k b u (hb b n) q,fun b u q n _ _=>⟨u.slots,k b u (hb b n) q⟩,fun b u q n _=>by rw [zaR (hx b n)];exact n,fun b u q _=>?_,
  fun b xs q=>by rw [zaR (hm b _ q fun z=>z)];exact q,fun b u xs q=>by rw [zaR (hm b _ q fun z=>z)];exact q,fun b ps q=>⟨#[],by rw [zaR (hm b _ q fun z=>z),q];simp⟩⟩
 by_cases hbe:b=e
 ·subst hbe;exact heo
 ·exact ⟨u,k b u hbe q⟩
end
def trk (h:Heap) (H:Hp):List Addr:=(List.range h.objs.size).filter fun a=>(H a).isSome
def hidT (h:Heap) (H:Hp):Heap:=PySem.W.hideAll h (trk h H)
theorem zjc (h:Heap) (H:Hp):(hidT h H).objs.size=h.objs.size:=PySem.W.hideAll_size _ _
theorem zkx {h:Heap} {H:Hp} {b:Addr} {o:Obj} (e:h.get? b=some o) (n:H b=none):(hidT h H).get? b=some o :=
 PySem.W.hideAll_get _ e fun hm=>by
  have q:(H b).isSome=true:=(mem_filter.mp hm).2;rw [n] at q;simp at q
theorem zlH {h:Heap} {H:Hp} {b:Addr} {o:Obj} (e:(hidT h H).get? b=some o):h.get? b=some o∧H b=none:=by
 have e':h.get? b=some o:=PySem.W.of_hideAll (trk h H) e;refine ⟨e',?_⟩
 cases q:H b with
 | none=>rfl
 | some x =>
   have hm:b∈trk h H:=mem_filter.mpr ⟨mem_range.mpr (Heap.lt_size e'),by simp [q]⟩;have z:(hidT h H).get? b=none:=PySem.W.hideAll_none (trk h H) hm;rw [z] at e;cases e
end L2
namespace L2
open PySem PySem.Spec PyProof.Rows
structure Mod (K:PySem.W.Frag) (mg:Str→Option Value) (base:Heap):Prop where
 kin:K.In base
 glob:base.Ns mainGlobals mg
 blt:∃ mb,base.Ns builtinsNs mb∧∀ x:Str,x≠"__name__"→mb x=bootBuiltins x
 nolimit:base.NoLimit
structure Cx where
 prog:Program
 w:World
 K:PySem.W.Frag
 mg:Str→Option Value
 base:Heap
 A:Around
 N:List Str
 s₀:Shared
 H₀:Hp
 env:Env
 outer:List Env
 stack:List Env
 ex:List Addr
 fn:Str→Bool
 calm:Bool
 pn:List (Addr×Obj)
 xe:Value→Shared→Prop
def frs (l:List Env):List Addr:=l.filterMap (·.frame)
abbrev Cx.fs (X:Cx):List Addr:=frs X.outer
def Vis (sc:Scope) (x:Str):Prop:=sc.names.lookup x=some .local∨sc.names.lookup x=some .cell∨sc.names.lookup x=some .free
def Loc (sc:Scope) (x:Str):Prop:=sc.names.lookup x=some .local∨sc.names.lookup x=some .cell
def Look (env:Env) (h:Heap) (m:Str→Option Value) (x:Str) (u:Value):Prop :=
 (env.kindOf x=some .local∧m x=some u)∨((env.kindOf x=some .cell∨env.kindOf x=some .free)∧∃ c,env.cells.lookup x=some c∧h.IsCell c (some u))
structure Cx.Ok (X:Cx):Prop where
 mod:Mod X.K X.mg X.base
 kind:X.env.scope.kind=.function
 glob:X.env.globals=mainGlobals
 blt:X.env.builtins=builtinsNs
 above:X.s₀.heap.objs.size≤X.env.locals
 inj:∀ x y c,X.env.cells.lookup x=some c→X.env.cells.lookup y=some c→x=y
 has:∀ x,(X.env.kindOf x=some .cell∨X.env.kindOf x=some .free)→∃ c,X.env.cells.lookup x=some c
 cab:∀ x c,X.fn x=true→X.env.cells.lookup x=some c→X.s₀.heap.objs.size≤c
 hd:X.calm=true→X.A.handled=none
 frames:X.A.frames=some X.stack
 stk:X.stack=X.outer∨(X.stack=X.env::X.outer∧X.env.frame=some X.env.locals)
 exf:∀ b∈X.ex,b≠X.env.locals∧∀ x c,X.env.cells.lookup x=some c→c≠b
 bs:∀ b o,X.base.get? b=some o→X.s₀.heap.get? b=some o∧X.H₀ b=none
 bsz:X.base.objs.size≤X.s₀.heap.objs.size
 noex:∀ b o,X.base.get? b=some o→b∉X.ex
 exfs:∀ b∈X.ex,b∉X.fs
 funs:X.s₀.heap.FunFrames X.base X.outer
 frf:∀ b∈X.fs,X.H₀ b=none
structure Inv (X:Cx) (pins:List (Addr×Obj)) (σ:List (Option V)) (H:Hp) (s:Shared):Prop where
 ok:X.Ok
 os:s.os=X.s₀.os
 bare:AllBare s.gens
 base:Un X.fs X.ex X.H₀ H X.s₀.heap s.heap
 loc:∃ m,s.heap.Ns X.env.locals m∧∀ (i:Nat) (x:Str) (v:V),X.N[i]? = some x→σ[i]? = some (some v)→Vis X.env.scope x→∃ u,RelV v u∧Look X.env s.heap m x u
 cell:∀ x c,X.env.cells.lookup x=some c→∃ v,s.heap.IsCell c v
 free:H X.env.locals=none
 freeC:∀ x c,X.env.cells.lookup x=some c→H c=none
 pin:∀ p∈X.pn++pins,s.heap.get? p.1=some p.2∧H p.1=none∧p.1≠X.env.locals∧p.1∉X.fs∧∀ v,p.2.data≠.cell v
 hok:HOk X.prog X.w H s.heap
 len:σ.length=X.N.length
section
variable {X:Cx} {pins:List (Addr×Obj)} {σ:List (Option V)} {H H':Hp} {s:Shared} {h':Heap}
theorem Cx.Ok.nofr (ok:X.Ok) {b:Addr} {o:Obj} (e:X.base.get? b=some o):b∉X.fs:=fun hb=>by
 have:=(ok.funs.mem hb).1;rw [e] at this;cases this
theorem Inv.bs (I:Inv X pins σ H s):∀ b o,X.base.get? b=some o→s.heap.get? b=some o∧H b=none:=fun b o e =>
 ⟨I.base.keep b o (I.ok.bs b o e).1 (I.ok.bs b o e).2 (I.ok.nofr e) (I.ok.noex b o e),I.base.free b o (I.ok.bs b o e).1 (I.ok.bs b o e).2 (I.ok.noex b o e)⟩
theorem Inv.bk (I:Inv X pins σ H s):∀ b o,X.base.get? b=some o→s.heap.get? b=some o:=fun b o e=>(I.bs b o e).1
theorem Inv.mod (I:Inv X pins σ H s):Mod X.K X.mg X.base:=I.ok.mod
theorem Inv.kIn (I:Inv X pins σ H s):X.K.In s.heap:=I.ok.mod.kin.keeps I.bk
theorem Inv.lt (I:Inv X pins σ H s):X.env.locals < s.heap.objs.size:=let ⟨_,hn,_⟩:=I.loc;hn.lt
theorem Inv.sz (I:Inv X pins σ H s):X.s₀.heap.objs.size≤s.heap.objs.size:=Nat.le_trans I.ok.above (Nat.le_of_lt I.lt)
theorem Inv.nofs (I:Inv X pins σ H s) {a:Addr} (h:s.heap.objs.size≤a):a∉X.fs:=fun hb=>by
 obtain ⟨_,o,ho,_⟩:=I.ok.funs.mem hb;exact absurd (Nat.lt_of_lt_of_le (Heap.lt_size ho) (Nat.le_trans I.sz h)) (Nat.lt_irrefl _)
theorem Inv.cne (I:Inv X pins σ H s):∀ x c,X.env.cells.lookup x=some c→c≠X.env.locals:=fun x c e z=>by
 obtain ⟨v,o,ho,hd⟩:=I.cell x c e;obtain ⟨m,⟨o',es,ep,ho',hd',_⟩,_⟩:=I.loc;rw [z,ho'] at ho;cases ho;rw [hd'] at hd;cases hd
theorem Inv.funs (I:Inv X pins σ H s):s.heap.FunFrames X.base X.outer:=by
 have all:∀ (l:List Env),(∀ b∈frs l,b∈X.fs)→X.s₀.heap.FunFrames X.base l→s.heap.FunFrames X.base l:=by
  intro l
  induction l with
  | nil=>intro _ _;trivial
  | cons env r ih =>
    intro hs hl;obtain ⟨hk,⟨L,o,hf,hn,ho,hd⟩,hr⟩:=hl;have hL:L∈X.fs:=hs L (by unfold frs;rw [List.filterMap_cons,hf];exact mem_cons_self);obtain ⟨sl,e⟩:=I.base.slot L o ho (I.ok.frf L hL) hL fun z=>I.ok.exfs L z hL;exact ⟨hk,⟨L,_,hf,hn,e,hd⟩,ih (fun b hb=>hs b (by unfold frs;rw [List.filterMap_cons,hf];exact mem_cons_of_mem _ hb)) hr⟩
 exact all X.outer (fun _ hb=>hb) I.ok.funs
theorem Inv.stack (I:Inv X pins σ H s):s.heap.FunFrames X.base X.stack:=by
 rcases I.ok.stk with e | ⟨e,hf⟩
 ·rw [e];exact I.funs
 ·rw [e];obtain ⟨m,hn,_⟩:=I.loc;refine .cons (by rw [I.ok.kind];decide) hf hn ?_ I.funs;exact Heap.get?_none_of_le (Nat.le_trans I.ok.bsz I.ok.above)
theorem Inv.stkSub (I:Inv X pins σ H s):∀ b∈frs X.stack,b∈X.env.locals::X.fs:=fun b hb=>by
 rcases I.ok.stk with e | ⟨e,hf⟩
 ·rw [e] at hb;exact mem_cons_of_mem _ hb
 ·rw [e] at hb;unfold frs at hb;rw [List.filterMap_cons,hf] at hb;exact hb
theorem Inv.stkFree (I:Inv X pins σ H s):∀ b∈frs X.stack,H b=none:=fun b hb=>by
 rcases mem_cons.mp (I.stkSub b hb) with e | hb
 ·rw [e];exact I.free
 ·obtain ⟨_,o,ho,_⟩:=I.ok.funs.mem hb;exact I.base.free b o ho (I.ok.frf b hb) fun z=>I.ok.exfs b z hb
theorem Inv.step {g':Array GenState} {t':Nat} {d':Drawn} {ch:List Addr} (I:Inv X pins σ H s)
  (hch:∀ b∈ch,(b∈X.ex∨X.s₀.heap.objs.size≤b)∧b≠X.env.locals∧(∀ x c,X.env.cells.lookup x=some c→c≠b)∧∀ p∈X.pn++pins,p.1≠b)
  (keep:∀ b o,b≠X.env.locals→b∉X.fs→b∉ch→s.heap.get? b=some o→H b=none→h'.get? b=some o)
  (slot:∀ b o,b≠X.env.locals→b∈X.fs→b∉ch→s.heap.get? b=some o→H b=none→∃ sl,h'.get? b=some { o with slots:=sl }) (free:∀ b o,b∉ch→s.heap.get? b=some o→H b=none→H' b=none)
  (there:∀ b o,b∉ch→s.heap.get? b=some o→∃ o',h'.get? b=some o')
  (tups:∀ b xs,H b=some (.tup xs)→H' b=some (.tup xs)) (frzs:∀ b o u,H b=some (.frz o u)→H' b=some (.frz o u)) (tbls:∀ b ps,H b=some (.tbl ps)→∃ more,H' b=some (.tbl (ps++more)))
  (ns:∀ m,s.heap.Ns X.env.locals m→h'.Ns X.env.locals m) (hok:HOk X.prog X.w H' h') (hg:AllBare g') :
  Inv X pins σ H' { s with heap:=h',gens:=g',drawn:=d',toks:=t' }:=by
 have neL:∀ b o,X.s₀.heap.get? b=some o→b≠X.env.locals:=fun b o e=>Nat.ne_of_lt (Nat.lt_of_lt_of_le (Heap.lt_size e) I.ok.above);have neC:∀ b o,X.s₀.heap.get? b=some o→b∉X.ex→b∉ch:=fun b o e hx hb=>by
  rcases (hch b hb).1 with z | z
  ·exact hx z
  ·exact absurd (Nat.lt_of_lt_of_le (Heap.lt_size e) z) (Nat.lt_irrefl _)
 have cellK:∀ x c,X.env.cells.lookup x=some c→∀ v,s.heap.IsCell c v→h'.IsCell c v:=fun x c e v ⟨o,ho,hd⟩=>by
  have nch:c∉ch:=fun z=>(hch c z).2.2.1 x c e rfl
  by_cases hc:c∈X.fs
  ·obtain ⟨sl,q⟩:=slot c o (I.cne x c e) hc nch ho (I.freeC x c e);exact ⟨_,q,hd⟩
  ·exact ⟨o,keep c o (I.cne x c e) hc nch ho (I.freeC x c e),hd⟩
 refine ⟨I.ok,I.os,hg,⟨fun b o e n hb hx=>?_,fun b o e n hb hx=>?_,fun b o e n hx=>?_,fun b o e hx=>?_,fun b xs e=>tups b xs (I.base.tups b xs e),fun b o xs e=>frzs b o xs (I.base.frzs b o xs e),fun b ps e=>?_⟩,?_,fun x c e=>?_,?_,fun x c e=>?_,fun p hp=>?_,hok,I.len⟩
 ·exact keep b o (neL b o e) hb (neC b o e hx) (I.base.keep b o e n hb hx) (I.base.free b o e n hx)
 ·obtain ⟨sl,e1⟩:=I.base.slot b o e n hb hx;obtain ⟨sl',e2⟩:=slot b _ (neL b o e) hb (neC b o e hx) e1 (I.base.free b o e n hx);exact ⟨sl',e2⟩
 ·obtain ⟨o',e1⟩:=I.base.there b o e hx;exact free b o' (neC b o e hx) e1 (I.base.free b o e n hx)
 ·obtain ⟨o',e1⟩:=I.base.there b o e hx;exact there b o' (neC b o e hx) e1
 ·obtain ⟨m1,e1⟩:=I.base.tbls b ps e;obtain ⟨m2,e2⟩:=tbls b _ e1;exact ⟨m1++m2,by rw [e2,Array.append_assoc]⟩
 ·obtain ⟨m,hn,hl⟩:=I.loc;refine ⟨m,ns m hn,fun i x v e1 e2 e3=>?_⟩;obtain ⟨u,r,l⟩:=hl i x v e1 e2 e3;refine ⟨u,r,?_⟩;rcases l with l | ⟨k,c,e,z⟩
  ·exact .inl l
  ·exact .inr ⟨k,c,e,cellK x c e _ z⟩
 ·obtain ⟨v,z⟩:=I.cell x c e;exact ⟨v,cellK x c e v z⟩
 ·obtain ⟨m,⟨o,_,_,ho,_⟩,_⟩:=I.loc;exact free _ o (fun z=>(hch _ z).2.1 rfl) ho I.free
 ·obtain ⟨v,o,ho,hd⟩:=I.cell x c e;exact free c o (fun z=>(hch c z).2.2.1 x c e rfl) ho (I.freeC x c e)
 ·obtain ⟨e,n,ne,nf,d⟩:=I.pin p hp;have nch:p.1∉ch:=fun z=>(hch p.1 z).2.2.2 p hp rfl;exact ⟨keep p.1 p.2 ne nf nch e n,free p.1 p.2 nch e n,ne,nf,d⟩
theorem Inv.un {t':Nat} (I:Inv X pins σ H s) (u:Un X.fs [] H H' s.heap h') (hok:HOk X.prog X.w H' h'):Inv X pins σ H' { s with heap:=h',toks:=t' }:=by
 obtain ⟨m,⟨o,es,ep,ho,r⟩,_⟩:=id I.loc;obtain ⟨sl,hL⟩:=u.any ho I.free (by simp);exact I.step (g':=s.gens) (d':=s.drawn) (ch:=[]) (fun _ z=>nomatch z) (fun b o _ hb _ e n=>u.keep b o e n hb (by simp)) (fun b o _ hb _ e n=>u.slot b o e n hb (by simp)) (fun b o _ e n=>u.free b o e n (by simp)) (fun b o _ e=>u.there b o e (by simp)) u.tups u.frzs u.tbls (fun m' hm=>by
  obtain ⟨o',es',ep',ho',r'⟩:=hm;rw [ho] at ho';cases ho'
  exact ⟨_,es',ep',hL,r'⟩) hok I.bare
theorem Inv.call {g':Array GenState} {t':Nat} {d':Drawn} {ch:List Addr} (I:Inv X pins σ H s) (u:Un (frs X.stack) ch H H' s.heap h') (hok:HOk X.prog X.w H' h') (hg:AllBare g')
  (hch:∀ b∈ch,(b∈X.ex∨X.s₀.heap.objs.size≤b)∧b≠X.env.locals∧(∀ x c,X.env.cells.lookup x=some c→c≠b)∧∀ p∈X.pn++pins,p.1≠b) :
  Inv X pins σ H' { s with heap:=h',gens:=g',drawn:=d',toks:=t' }:=by
 obtain ⟨m,⟨o,es,ep,ho,r⟩,_⟩:=id I.loc;obtain ⟨sl,hL⟩:=u.any ho I.free fun z=>(hch _ z).2.1 rfl;exact I.step (ch:=ch) hch (fun b o hL hb hc e n=>u.keep b o e n (fun z=>(mem_cons.mp (I.stkSub b z)).elim hL hb) hc) (fun b o _ _ hc e n=>u.any e n hc) (fun b o hc e n=>u.free b o e n hc) (fun b o hc e=>u.there b o e hc) u.tups u.frzs u.tbls (fun m' hm=>by
  obtain ⟨o',es',ep',ho',r'⟩:=hm;rw [ho] at ho';cases ho'
  exact ⟨_,es',ep',hL,r'⟩) hok hg
theorem Inv.turned {t':Nat} {it:Addr} (I:Inv X pins σ H s) (k:∀ b o,b≠it→s.heap.get? b=some o→h'.get? b=some o) (hn:H it=none) (hL:it≠X.env.locals)
  (h1:it∈X.ex∨X.s₀.heap.objs.size≤it) (h2:∀ x c,X.env.cells.lookup x=some c→c≠it) (h3:∀ p∈X.pn++pins,p.1≠it):Inv X pins σ H { s with heap:=h',toks:=t' }:=by
 have nit:∀ b u,H b=some u→b≠it:=fun b u e z=>by rw [z,hn] at e;cases e
 refine I.step (g':=s.gens) (d':=s.drawn) (ch:=[it]) (fun b hb=>?_) (fun b o _ _ hc e _=>k b o (fun z=>hc (by simp [z])) e) (fun b o _ _ hc e _=>⟨o.slots,k b o (fun z=>hc (by simp [z])) e⟩) (fun _ _ _ _ n=>n)
  (fun b o hc e=>⟨o,k b o (fun z=>hc (by simp [z])) e⟩) (fun _ _ e=>e) (fun _ _ _ e=>e) (fun b ps e=>⟨#[],by rw [e];simp⟩) (fun m hm=>?_) (fun b u e=>?_) I.bare
 ·have e:b=it:=by simpa using hb
  subst e;exact ⟨h1,hL,h2,h3⟩
 ·obtain ⟨o,es,ep,ho,r⟩:=hm;exact ⟨o,es,ep,k _ o (Ne.symm hL) ho,r⟩
 ·refine (I.hok b u e).stay (fun c v hc q=>k c v ?_ q) (fun _ q=>q) fun _ _ q=>q;rcases hc with z | z
  ·rw [z];exact nit b u e
  ·exact nit c _ z
theorem Inv.tok (I:Inv X pins σ H s) (t:Nat):Inv X pins σ H { s with toks:=t }:=I.un (h':=s.heap) (t':=t) Un.refl I.hok
theorem Inv.kept {t':Nat} (I:Inv X pins σ H s) (k:∀ b u,s.heap.get? b=some u→h'.get? b=some u):Inv X pins σ H { s with heap:=h',toks:=t' }:=I.un (Un.kept k) (I.hok.kept k)
theorem Inv.laid {a:Addr} {o:HO} {t':Nat} (I:Inv X pins σ H s) (k:∀ b u,s.heap.get? b=some u→h'.get? b=some u) (hp:s.heap.objs.size≤a) (new:zbV X.prog X.w (upd H a o) h' a o) :
  Inv X pins σ (upd H a o) { s with heap:=h',toks:=t' }:=I.un (Un.laid k hp (I.hok.fresh hp)) (I.hok.laid k hp new)
theorem Inv.write {x e:Addr} {o:HO} {t':Nat} (I:Inv X pins σ H s) (mu:Mut (H x)) (he:e=x∨H e=some (.own x)) (k:∀ b u,b≠e→s.heap.get? b=some u→h'.get? b=some u) (heo:∃ u,h'.get? e=some u)
  (new:zbV X.prog X.w (upd H x o) h' x o):Inv X pins σ (upd H x o) { s with heap:=h',toks:=t' }:=I.un (Un.write mu he k heo) (I.hok.write mu he k heo new)
theorem Inv.pins_of {pins':List (Addr×Obj)} (I:Inv X pins σ H s) (h:∀ p∈pins',s.heap.get? p.1=some p.2∧H p.1=none∧p.1≠X.env.locals∧p.1∉X.fs∧∀ v,p.2.data≠.cell v):Inv X pins' σ H s :=
 ⟨I.ok,I.os,I.bare,I.base,I.loc,I.cell,I.free,I.freeC,fun p hp=>(mem_append.mp hp).elim (fun z=>I.pin p (mem_append_left _ z)) (h p),I.hok,I.len⟩
theorem zhO {N:List Str} (hN:N.Nodup) {i j:Nat} {x:Str} (a:N[i]? = some x) (b:N[j]? = some x):i=j:=by
 obtain ⟨h1,e1⟩:=List.getElem?_eq_some_iff.mp a;obtain ⟨h2,e2⟩:=List.getElem?_eq_some_iff.mp b;exact (getElem_inj hN).mp (e1.trans e2.symm)
theorem zgh {M:Model} {A:Around} {E:Value→Shared→Prop} {i:Nat} {x:Str} {v:V} {u:Value} {Q:Unit→Shared→Prop} (I:Inv X pins σ H s) (hN:X.N.Nodup) (hi:X.N[i]? = some x) (hx:Loc X.env.scope x) (r:RelV v u)
  (h:∀ s',Inv X pins (σ.set i (some v)) H s'→(∃ a,Heap.SameBut a s.heap s'.heap∧(a=X.env.locals∨X.env.cells.lookup x=some a))→Q () s') (hf:X.fn x=true∨X.env.scope.names.lookup x=some .local:=by first | exact .inl rfl | exact .inr rfl | assumption):wpAny M A (storeName X.env x u) Q E s:=by
 obtain ⟨m,hn,hl⟩:=id I.loc;have hcls:(X.env.scope.kind == .class || (X.env.scope.kind == .module && X.env.locals != X.env.globals))=false:=by rw [I.ok.kind];rfl
 have hiσ:i < σ.length:=by rw [I.len];exact (List.getElem?_eq_some_iff.mp hi).1
 have cne:=I.cne;have tracked:∀ {a:Addr} {h':Heap},(∃ o,s.heap.get? a=some o∧H a=none)→Heap.SameBut a s.heap h'→HOk X.prog X.w H h':=fun {a h'} ha hs b ob e=>by
  obtain ⟨_,_,hfree⟩:=ha;refine (I.hok b ob e).stay (fun c w' hc q=>(hs.2 c ?_).trans q) (fun _ q=>q) fun _ _ q=>q;rintro rfl;rcases hc with rfl | hc
  ·rw [hfree] at e;cases e
  ·rw [hfree] at hc;cases hc
 rcases hx with hk | hk
 ·refine wpAny_storeName_local hk hn (fun h' hn' hs=>?_) hcls;obtain ⟨oL,_,_,hoL,_⟩:=id hn;refine h _ ⟨I.ok,I.os,I.bare,⟨fun b o e n hb hx=>?_,fun b o e n hb hx=>?_,I.base.free,fun b o e hx=>?_,I.base.tups,I.base.frzs,I.base.tbls⟩,⟨_,hn',fun j y v' e1 e2 e3=>?_⟩,fun y c e=>?_,I.free,I.freeC,fun p hp=>?_,tracked ⟨oL,hoL,I.free⟩ hs,by simpa using I.len⟩ ⟨_,hs,.inl rfl⟩
  ·exact (hs.2 b (Nat.ne_of_lt (Nat.lt_of_lt_of_le (Heap.lt_size e) I.ok.above))).trans (I.base.keep b o e n hb hx)
  ·obtain ⟨sl,e1⟩:=I.base.slot b o e n hb hx;exact ⟨sl,(hs.2 b (Nat.ne_of_lt (Nat.lt_of_lt_of_le (Heap.lt_size e) I.ok.above))).trans e1⟩
  ·obtain ⟨o',e1⟩:=I.base.there b o e hx;exact ⟨o',(hs.2 b (Nat.ne_of_lt (Nat.lt_of_lt_of_le (Heap.lt_size e) I.ok.above))).trans e1⟩
  ·by_cases hj:j=i
   ·subst hj;rw [hi] at e1;cases e1
    rw [List.getElem?_set_self hiσ] at e2
    cases e2
    exact ⟨u,r,.inl ⟨hk,by simp⟩⟩
   ·rw [List.getElem?_set_ne (Ne.symm hj)] at e2;obtain ⟨u',r',q⟩:=hl j y v' e1 e2 e3;refine ⟨u',r',?_⟩;rcases q with ⟨k,e⟩ | ⟨k,c,e,z⟩
    ·refine .inl ⟨k,?_⟩;have:y≠x:=fun e=>hj (zhO hN e1 (e▸hi));simp [this,e]
    ·exact .inr ⟨k,c,e,z.sameBut hs (cne y c e)⟩
  ·obtain ⟨w',z⟩:=I.cell y c e;exact ⟨w',z.sameBut hs (cne y c e)⟩
  ·obtain ⟨e,n,ne,nf,d⟩:=I.pin p hp;exact ⟨(hs.2 p.1 ne).trans e,n,ne,nf,d⟩
 ·have hfn:X.fn x=true:=by
   rcases hf with z | z
   ·exact z
   ·rw [z] at hk;cases hk
  obtain ⟨c,hc⟩:=I.ok.has x (.inl hk);obtain ⟨w',z⟩:=I.cell x c hc;refine wpAny_storeName_cell I.ok.kind hk hc z (fun h' hc' hs=>?_);obtain ⟨oc,hoc,hocd⟩:=id z;refine h { s with heap:=h' } ⟨I.ok,I.os,I.bare,⟨fun b o e n hb hx=>?_,fun b o e n hb hx=>?_,I.base.free,fun b o e hx=>?_,I.base.tups,I.base.frzs,I.base.tbls⟩,⟨m,hn.sameBut hs (Ne.symm (cne x c hc)),fun j y v' e1 e2 e3=>?_⟩,fun y c' e=>?_,I.free,I.freeC,fun p hp=>?_,tracked ⟨oc,hoc,I.freeC x c hc⟩ hs,by simpa using I.len⟩ ⟨c,hs,.inr hc⟩
  ·exact (hs.2 b (Nat.ne_of_lt (Nat.lt_of_lt_of_le (Heap.lt_size e) (I.ok.cab x c hfn hc)))).trans (I.base.keep b o e n hb hx)
  ·obtain ⟨sl,e1⟩:=I.base.slot b o e n hb hx;exact ⟨sl,(hs.2 b (Nat.ne_of_lt (Nat.lt_of_lt_of_le (Heap.lt_size e) (I.ok.cab x c hfn hc)))).trans e1⟩
  ·obtain ⟨o',e1⟩:=I.base.there b o e hx;exact ⟨o',(hs.2 b (Nat.ne_of_lt (Nat.lt_of_lt_of_le (Heap.lt_size e) (I.ok.cab x c hfn hc)))).trans e1⟩
  ·by_cases hj:j=i
   ·subst hj;rw [hi] at e1;cases e1
    rw [List.getElem?_set_self hiσ] at e2
    cases e2
    exact ⟨u,r,.inr ⟨.inl hk,c,hc,hc'⟩⟩
   ·rw [List.getElem?_set_ne (Ne.symm hj)] at e2;obtain ⟨u',r',q⟩:=hl j y v' e1 e2 e3;refine ⟨u',r',?_⟩;rcases q with q | ⟨k,c',e,z'⟩
    ·exact .inl q
    ·refine .inr ⟨k,c',e,z'.sameBut hs ?_⟩;rintro rfl;exact hj (zhO hN e1 (I.ok.inj _ _ _ e hc▸hi))
  ·by_cases hcc:c'=c
   ·subst hcc;exact ⟨_,hc'⟩
   ·obtain ⟨w2,z2⟩:=I.cell y c' e;exact ⟨w2,z2.sameBut hs hcc⟩
  ·obtain ⟨e,n,ne,nf,d⟩:=I.pin p hp;refine ⟨(hs.2 p.1 ?_).trans e,n,ne,nf,d⟩;intro q;rw [q,hoc] at e;have q':oc=p.2:=Option.some.inj e;exact d w' (by rw [← q'];exact hocd)
theorem zhP {M:Model} {A:Around} {E:Value→Shared→Prop} {i:Nat} {x:Str} {v:V} {u:Value} {Q:Unit→Shared→Prop} (I:Inv X pins σ H s) (hN:X.N.Nodup) (hi:X.N[i]? = some x) (hx:Loc X.env.scope x) (r:RelV v u)
  (h:∀ s',Inv X pins (σ.set i (some v)) H s'→Q () s') (hf:X.fn x=true∨X.env.scope.names.lookup x=some .local:=by first | exact .inl rfl | exact .inr rfl | assumption):wpAny M A (storeName X.env x u) Q E s :=
 zgh I hN hi hx r (fun s' I' _=>h s' I') hf
theorem Inv.call' {s':Shared} {ch:List Addr} (I:Inv X pins σ H s) (ho:s'.os=s.os) (u:Un (frs X.stack) ch H H' s.heap s'.heap) (hok:HOk X.prog X.w H' s'.heap) (hg:AllBare s'.gens)
  (hch:∀ b∈ch,(b∈X.ex∨X.s₀.heap.objs.size≤b)∧b≠X.env.locals∧(∀ x c,X.env.cells.lookup x=some c→c≠b)∧∀ p∈X.pn++pins,p.1≠b):Inv X pins σ H' s':=by
 obtain ⟨h',g',d',t',o'⟩:=s';have e:o'=s.os:=ho;subst e;exact I.call (g':=g') (t':=t') (d':=d') u hok hg hch
end
abbrev XK:=Value→Option Addr→Hp→Prop
abbrev St:=List (Option V)
abbrev VK:=V→Hp→Prop
abbrev TE:=St→Hp→VK→Prop
abbrev TT:=St→Hp→(Bool→Hp→Prop)→Prop
abbrev TA:=St→Hp→(List V→Hp→Prop)→Prop
structure Ends where
 nx:St→Hp→Prop
 rt:VK
 bk:St→Hp→Prop:=fun _ _=>False
 ct:St→Hp→Prop:=fun _ _=>False
abbrev TS:=Ends→St→Hp→Prop
def EP (X:Cx) (pins:List (Addr×Obj)) (σ:St) (Q:VK) (u:Value) (s':Shared):Prop:=∃ v H',Inv X pins σ H' s'∧RelV v u∧Q v H'
def TP (X:Cx) (pins:List (Addr×Obj)) (σ:St) (Q:Bool→Hp→Prop) (b:Bool) (s':Shared):Prop:=∃ H',Inv X pins σ H' s'∧Q b H'
def AP (X:Cx) (pins:List (Addr×Obj)) (σ:St) (Q:List V→Hp→Prop) (us:List Value) (s':Shared):Prop:=∃ vs H',Inv X pins σ H' s'∧Vals vs us∧Q vs H'
def SP (X:Cx) (pins:List (Addr×Obj)) (D:Ends) (f:Flow) (s':Shared):Prop :=
 match f with
 | .next=>∃ σ' H',Inv X pins σ' H' s'∧D.nx σ' H'
 | .brk=>∃ σ' H',Inv X pins σ' H' s'∧D.bk σ' H'
 | .cont=>∃ σ' H',Inv X pins σ' H' s'∧D.ct σ' H'
 | .ret u=>∃ v σ' H',Inv X pins σ' H' s'∧RelV v u∧D.rt v H'
def PE (X:Cx) (e:Expr) (t:TE):Prop :=
 ∀ (pins:List (Addr×Obj)) (s:Shared) (σ:St) (H:Hp) (Q:VK),Inv X pins σ H s→t σ H Q→wpAny (model X.prog X.w) X.A (eval e X.env) (EP X pins σ Q) X.xe s
def PT (X:Cx) (e:Expr) (t:TT):Prop :=
 ∀ (pins:List (Addr×Obj)) (s:Shared) (σ:St) (H:Hp) (Q:Bool→Hp→Prop),Inv X pins σ H s→t σ H Q→wpAny (model X.prog X.w) X.A (isTrue e X.env (eval e X.env)) (TP X pins σ Q) X.xe s
def PW (X:Cx) (e:Expr) (t:TT):Prop :=
 ∀ (whole:Sem Value) (pins:List (Addr×Obj)) (s:Shared) (σ:St) (H:Hp) (Q:Bool→Hp→Prop),Inv X pins σ H s→t σ H Q→wpAny (model X.prog X.w) X.A (isTrue e X.env whole) (TP X pins σ Q) X.xe s
theorem PW.pt {X:Cx} {e:Expr} {t:TT} (h:PW X e t):PT X e t:=h _
def PA (X:Cx) (es:List Expr) (t:TA):Prop :=
 ∀ (pos:Pos) (pins:List (Addr×Obj)) (s:Shared) (σ:St) (H:Hp) (Q:List V→Hp→Prop),Inv X pins σ H s→t σ H Q→wpAny (model X.prog X.w) X.A (spliced (backTo pos (starEach es X.env))) (AP X pins σ Q) X.xe s
def PS (X:Cx) (st:Stmt) (t:TS):Prop :=
 ∀ (pins:List (Addr×Obj)) (s:Shared) (σ:St) (H:Hp) (D:Ends),Inv X pins σ H s→t D σ H→wpAny (model X.prog X.w) X.A (exec st X.env) (SP X pins D) X.xe s
def PSs (X:Cx) (st:List Stmt) (t:TS):Prop :=
 ∀ (pins:List (Addr×Obj)) (s:Shared) (σ:St) (H:Hp) (D:Ends),Inv X pins σ H s→t D σ H→wpAny (model X.prog X.w) X.A (execs st X.env) (SP X pins D) X.xe s
theorem thn {α:Type} {t:Sem α} {Q Q':α→Shared→Prop} {M:Model} {A:Around} {E:Value→Shared→Prop} {s:Shared} (h:wpAny M A t Q E s) (hQ:∀ a s,Q a s→Q' a s):wpAny M A t Q' E s:=wpAny_mono h hQ fun _ _ x=>x
end L2
namespace L2
open PySem PySem.Spec PyProof.Rows
section
variable {X:Cx}
def tVar (i:Nat):TE:=fun σ H Q=>∃ v,σ[i]? = some (some v)∧Q v H
def tC (v:V):TE:=fun _ H Q=>Q v H
theorem zmG {i:Nat} {x:Str} {pos:Pos} (hN:X.N[i]? = some x) (hv:Vis X.env.scope x) (hd:(x == ("__debug__" : Str))=false:=by decide) (hcd:(x == ("__classdict__" : Str))=false:=by decide):PE X (.Name x pos) (tVar i):=by
 intro pins s σ H Q I h;obtain ⟨v,e,h⟩:=h;obtain ⟨m,hn,hl⟩:=I.loc;obtain ⟨u,r,l⟩:=hl i x v hN e hv;have fin:EP X pins σ Q u s:=⟨v,H,I,r,h⟩
 rcases l with ⟨hk,hm⟩ | ⟨hk,c,hc,hcell⟩
 ·exact wpAny_Name (wpAny_loadName_local I.ok.kind hk hn hm fin) hd
 ·rcases hk with hk | hk
  ·exact wpAny_Name (wpAny_loadName_cell I.ok.kind hk hc hcell fin) hd
  ·exact wpAny_Name (wpAny_loadName_free I.ok.kind hk hc hcell fin hcd) hd
theorem zad {i j pos}:PE X (.Constant (.int i) j pos) (tC (.int i)):=fun _ _ _ H _ I h=>wpAny_Constant_int ⟨.int i,H,I.tok _,⟨_,rfl⟩,h⟩
theorem za9 {b j pos}:PE X (.Constant (.bool b) j pos) (tC (.bl b)):=fun _ _ _ H _ I h=>Constant_bool ⟨.bl b,H,I,rfl,h⟩
theorem zbW {j pos}:PE X (.Constant .none j pos) (tC .non):=fun _ _ _ H _ I h=>Constant_none ⟨.non,H,I,rfl,h⟩
def Gl (X:Cx) (x:Str):Prop:=X.env.kindOf x=some .globalImplicit
theorem zfO {E:Value→Shared→Prop} {pins:List (Addr×Obj)} {s:Shared} {σ:St} {H:Hp} {x:Str} {u:Value} {pos:Pos} {Q:Value→Shared→Prop} (I:Inv X pins σ H s) (hg:Gl X x) (hm:X.mg x=some u) (h:Q u s)
  (hd:(x == ("__debug__" : Str))=false:=by decide):wpAny (model X.prog X.w) X.A (eval (.Name x pos) X.env) Q E s :=
 Calls.Name_function_global I.ok.kind hg (Calls.loadGlobal_global (by rw [I.ok.glob];exact I.mod.glob.keeps I.bk) hm h) hd
theorem zeE {E:Value→Shared→Prop} {pins:List (Addr×Obj)} {s:Shared} {σ:St} {H:Hp} {x:Str} {u:Value} {pos:Pos} {Q:Value→Shared→Prop} (I:Inv X pins σ H s) (hg:Gl X x) (hm:X.mg x=none) (hv:bootBuiltins x=some u) (h:Q u s)
  (hn:x≠"__name__":=by decide) (hd:(x == ("__debug__" : Str))=false:=by decide):wpAny (model X.prog X.w) X.A (eval (.Name x pos) X.env) Q E s:=by
 obtain ⟨mb,h1,h2⟩:=I.mod.blt;exact Calls.Name_function_global I.ok.kind hg (Calls.loadGlobal_builtin (by rw [I.ok.glob];exact I.mod.glob.keeps I.bk) hm (by rw [I.ok.blt];exact h1.keeps I.bk) ((h2 x hn).trans hv) h) hd
theorem zcW {x:Str} {v:V} {u:Value} {pos:Pos} (hg:Gl X x) (hm:X.mg x=some u) (r:RelV v u) (hd:(x == ("__debug__" : Str))=false:=by decide):PE X (.Name x pos) (tC v) :=
 fun _ _ _ H _ I h=>zfO I hg hm ⟨v,H,I,r,h⟩ hd
theorem zcD {x:Str} {v:V} {u:Value} {pos:Pos} (hg:Gl X x) (hm:X.mg x=none) (hv:bootBuiltins x=some u) (r:RelV v u) (hn:x≠"__name__":=by decide) (hd:(x == ("__debug__" : Str))=false:=by decide):PE X (.Name x pos) (tC v) :=
 fun _ _ _ H _ I h=>zeE I hg hm hv ⟨v,H,I,r,h⟩ hn hd
variable {a b:Expr} {ta tb:TE} {pos:Pos}
def PC (X:Cx) (op:CmpOp) (a b:Expr) (t:TE):Prop :=
 ∀ (pins:List (Addr×Obj)) (s:Shared) (σ:St) (H:Hp) (Q:VK),Inv X pins σ H s→t σ H Q →
  wpAny (model X.prog X.w) X.A (eval a X.env) (fun v s₁=>wpAny (model X.prog X.w) X.A (eval b X.env) (fun u s₂=>wpAny (model X.prog X.w) X.A (compareOp op v u) (EP X pins σ Q) X.xe s₂) X.xe s₁) X.xe s
theorem zky (b:Expr) {op:CmpOp} (h:op≠.In) (h2:op≠.NotIn):behindInMarks op b=false:=by
 have e1:(op == CmpOp.In)=false:=by cases op <;> first | rfl | exact absurd rfl h
 have e2:(op == CmpOp.NotIn)=false:=by cases op <;> first | rfl | exact absurd rfl h2
 cases b <;> simp [behindInMarks,e1,e2]
def tB (t:TE):TT:=fun σ H Q=>t σ H fun x H1=>∃ c,x=.bl c∧Q c H1
theorem zlr {op:CmpOp} {t:TE} (h:PC X op a b t) (h1:behindInMarks op b=false:=by first | exact zky _ (by decide) (by decide) | rfl):PT X (.Compare a [op] [b] pos) (tB t):=by
 intro pins s σ H Q I hw;refine wpAny_isTrue_Compare1 (thn (h pins s σ H _ I hw) fun v s1 h1=>thn h1 fun u s2 h2=>thn h2 fun c s3 ⟨x,H1,I1,r1,q1⟩=>?_) h1;obtain ⟨d,rfl,q⟩:=q1
 cases r1
 exact wpAny_truthy_bool ⟨H1,I1,q⟩
variable {tA tB':TT} {rest:List Expr}
def tAnd (t u:TT):TT:=fun σ H Q=>t σ H fun c H1=>if c=true then u σ H1 Q else Q false H1
def tOr (t u:TT):TT:=fun σ H Q=>t σ H fun c H1=>if c=true then Q true H1 else u σ H1 Q
def tNot (t:TT):TT:=fun σ H Q=>t σ H fun c H1=>Q (!c) H1
theorem zdu (ha:PT X a tA):PW X (.BoolOp .And [a] pos) tA:=by
 intro wh pins s σ H Q I h;refine isTrue_and (thn (ha pins s σ H Q I h) fun c s1 e=>?_)
 cases c with
 | true=>exact isTrue_and_nil e
 | false=>exact e
theorem zbX (ha:PT X a tA):PW X (.BoolOp .Or [a] pos) tA:=by
 intro wh pins s σ H Q I h;refine isTrue_or (thn (ha pins s σ H Q I h) fun c s1 e=>?_)
 cases c with
 | false=>exact isTrue_or_nil e
 | true=>exact e
theorem zeF (ha:PT X a tA) (hb:PW X (.BoolOp .And (b::rest) pos) tB'):PW X (.BoolOp .And (a::b::rest) pos) (tAnd tA tB'):=by
 intro wh pins s σ H Q I h;refine isTrue_and (thn (ha pins s σ H _ I h) fun c s1 ⟨H1,I1,q1⟩=>?_)
 cases c with
 | true=>exact hb wh pins s1 σ H1 Q I1 q1
 | false=>exact ⟨H1,I1,q1⟩
theorem zcv (ha:PT X a tA) (hb:PW X (.BoolOp .Or (b::rest) pos) tB'):PW X (.BoolOp .Or (a::b::rest) pos) (tOr tA tB'):=by
 intro wh pins s σ H Q I h;refine isTrue_or (thn (ha pins s σ H _ I h) fun c s1 ⟨H1,I1,q1⟩=>?_)
 cases c with
 | true=>exact ⟨H1,I1,q1⟩
 | false=>exact hb wh pins s1 σ H1 Q I1 q1
theorem zbd (ha:PT X a tA):PT X (.UnaryOp .Not a pos) (tNot tA):=by
 intro pins s σ H Q I h;exact isTrue_not (ha pins s σ H (fun c H1=>Q (!c) H1) I h)
def zmH (ta tb:TE):TE:=fun σ H Q=>ta σ H fun x H1=>∃ c,x=.bl c∧if c=true then tb σ H1 Q else Q (.bl false) H1
def tOrV (ta tb:TE):TE:=fun σ H Q=>ta σ H fun x H1=>∃ c,x=.bl c∧if c=true then Q (.bl true) H1 else tb σ H1 Q
def zmI (ta:TE):TE:=fun σ H Q=>ta σ H fun x H1=>∃ c,x=.bl c∧Q (.bl (!c)) H1
theorem zfs {op} {t:TE} (h:PE X a t):PE X (.BoolOp op [a] pos) t:=fun pins s σ H Q I hw=>BoolOp_one (h pins s σ H Q I hw)
theorem zgi (ha:PE X a ta) (hb:PE X (.BoolOp .And (b::rest) pos) tb):PE X (.BoolOp .And (a::b::rest) pos) (zmH ta tb):=by
 intro pins s σ H Q I h;refine BoolOp_and (thn (ha pins s σ H _ I h) fun v s1 ⟨x,H1,I1,r1,q1⟩=>?_);obtain ⟨c,rfl,q1⟩:=q1
 cases r1
 refine wpAny_truthy_bool ?_
 cases c with
 | true=>exact hb pins s1 σ H1 Q I1 q1
 | false=>exact ⟨.bl false,H1,I1,rfl,q1⟩
theorem zn5 (ha:PE X a ta) (hb:PE X (.BoolOp .Or (b::rest) pos) tb):PE X (.BoolOp .Or (a::b::rest) pos) (tOrV ta tb):=by
 intro pins s σ H Q I h;refine BoolOp_or (thn (ha pins s σ H _ I h) fun v s1 ⟨x,H1,I1,r1,q1⟩=>?_);obtain ⟨c,rfl,q1⟩:=q1
 cases r1
 refine wpAny_truthy_bool ?_
 cases c with
 | false=>exact hb pins s1 σ H1 Q I1 q1
 | true=>exact ⟨.bl true,H1,I1,rfl,q1⟩
theorem zjd (ha:PE X a ta):PE X (.UnaryOp .Not a pos) (zmI ta):=by
 intro pins s σ H Q I h;refine UnaryOp_ (thn (ha pins s σ H _ I h) fun v s1 ⟨x,H1,I1,r1,q1⟩=>?_);obtain ⟨c,rfl,q1⟩:=q1
 cases r1
 exact not_of (wpAny_truthy_bool ⟨.bl (!c),H1,I1,rfl,q1⟩)
end
end L2
namespace L2
open PySem PySem.Spec PyProof.Rows
def SqL (K:PySem.W.Frag) (H:Hp) (a:Addr) (xs:List V):Prop :=
 Rd H a (.lst xs) ∨
  ∃ (o:Obj) (its:Array Value) (n:Nat),K.lookup a=some o∧o.cls=.type "list"∧o.dict=none∧o.data=.seq its n∧its.size≤sizeLine∧Vals xs its.toList
def SqT (K:PySem.W.Frag) (H:Hp) (a:Addr) (xs:List V):Prop :=
 Rd H a (.tup xs) ∨
  ∃ (o:Obj) (its:Array Value) (n:Nat),K.lookup a=some o∧o.cls=.type "tuple"∧o.data=.seq its n∧its.size≤sizeLine∧Vals xs its.toList
def absV:Value→Option V
 | .none=>some .non
 | .bool b=>some (.bl b)
 | .int i _=>some (.int i)
 | .str x _=>some (.str x)
 | .bytes b _=>some (.byt b)
 | .float b _=>some (.flt b)
 | .ref a=>some (.ref a)
 | .type n=>some (.ty n)
 | _=>none
theorem RelV.abs {x:V} {u:Value} (r:RelV x u):absV u=some x:=by
 cases x with
 | non=>cases r;rfl
 | bl _=>cases r;rfl
 | int _=>obtain ⟨t,rfl⟩:=r;rfl
 | str _=>obtain ⟨t,rfl⟩:=r;rfl
 | byt _=>obtain ⟨t,rfl⟩:=r;rfl
 | flt _=>obtain ⟨t,rfl⟩:=r;rfl
 | ref _=>cases r;rfl
 | ty _=>cases r;rfl
theorem RelV.inj {x y:V} {u:Value} (r:RelV x u) (q:RelV y u):x=y:=Option.some.inj (r.abs.symm.trans q.abs)
theorem Vals.inj:∀ {xs ys:List V} {us:List Value},Vals xs us→Vals ys us→xs=ys
 | _,_,_,.nil,.nil=>rfl
 | _,_,_,.cons r t,.cons r' t'=>by rw [r.inj r',Vals.inj t t']
section
variable {X:Cx} {pins:List (Addr×Obj)} {σ:St} {H:Hp} {s:Shared} {a:Addr} {xs ys:List V}
theorem SqL.of {K:PySem.W.Frag} (h:H a=some (.lst xs)):SqL K H a xs:=.inl (.inl h)
theorem SqT.of {K:PySem.W.Frag} (h:H a=some (.tup xs)):SqT K H a xs:=.inl (.inl h)
theorem Inv.list (I:Inv X pins σ H s) (h:SqL X.K H a xs):∃ its:List Value,Vals xs its∧PlainL s.heap a its.toArray∧xs.length≤sizeLine:=by
 rcases h with h | ⟨o,its,n,hk,hc,hd,hs,hz,r⟩
 ·obtain ⟨z,its,n,r,e⟩:=h.ok I.hok;exact ⟨its,r,⟨_,n,e,rfl,rfl,rfl⟩,z⟩
 ·refine ⟨its.toList,r,⟨o,n,I.kIn a o hk,hc,hd,by simpa using hs⟩,?_⟩;have e:=r.length;simp only [Array.length_toList] at e;omega
theorem Inv.tuple (I:Inv X pins σ H s) (h:SqT X.K H a xs):∃ its:List Value,Vals xs its∧IsTup s.heap a its.toArray∧xs.length≤sizeLine:=by
 rcases h with h | ⟨o,its,n,hk,hc,hs,hz,r⟩
 ·obtain ⟨z,its,r,p⟩:=h.ok I.hok;exact ⟨its,r,p,z⟩
 ·refine ⟨its.toList,r,⟨o,I.kIn a o hk,hc,n,by simpa using hs⟩,?_⟩;have e:=r.length;simp only [Array.length_toList] at e;omega
theorem Inv.list_inj (I:Inv X pins σ H s) (h:SqL X.K H a xs) (h':SqL X.K H a ys):xs=ys:=by
 obtain ⟨its,r,⟨o,n,e,_,_,d⟩,_⟩:=I.list h;obtain ⟨its',r',⟨o',n',e',_,_,d'⟩,_⟩:=I.list h';rw [e] at e';cases e'
 rw [d] at d';injection d' with d1 _;have:its=its':=by simpa using congrArg Array.toList d1
 subst this;exact r.inj r'
end
abbrev Cx.wish (X:Cx) (E:Value→Shared→Prop):Cx:={ X with xe:=E }
abbrev Cx.nox (X:Cx):Cx:=X.wish fun _ _=>False
theorem Cx.Ok.wish {X:Cx} (ok:X.Ok) (E:Value→Shared→Prop):(X.wish E).Ok :=
 ⟨ok.mod,ok.kind,ok.glob,ok.blt,ok.above,ok.inj,ok.has,ok.cab,ok.hd,ok.frames,ok.stk,ok.exf,ok.bs,ok.bsz,ok.noex,ok.exfs,ok.funs,ok.frf⟩
theorem Cx.Ok.unwish {X:Cx} {E:Value→Shared→Prop} (ok:(X.wish E).Ok):X.Ok :=
 ⟨ok.mod,ok.kind,ok.glob,ok.blt,ok.above,ok.inj,ok.has,ok.cab,ok.hd,ok.frames,ok.stk,ok.exf,ok.bs,ok.bsz,ok.noex,ok.exfs,ok.funs,ok.frf⟩
section
variable {X:Cx} {pins:List (Addr×Obj)} {σ:St} {H:Hp} {s:Shared} {E:Value→Shared→Prop}
theorem Inv.wish (I:Inv X pins σ H s) (E:Value→Shared→Prop):Inv (X.wish E) pins σ H s:=⟨I.ok.wish E,I.os,I.bare,I.base,I.loc,I.cell,I.free,I.freeC,I.pin,I.hok,I.len⟩
theorem Inv.unwish (I:Inv (X.wish E) pins σ H s):Inv X pins σ H s:=⟨I.ok.unwish,I.os,I.bare,I.base,I.loc,I.cell,I.free,I.freeC,I.pin,I.hok,I.len⟩
theorem SP.unwish {D:Ends} {f:Flow} {s':Shared} (h:SP (X.wish E) pins D f s'):SP X pins D f s':=by
 cases f with
 | next=>obtain ⟨σ',H',I,q⟩:=h;exact ⟨σ',H',I.unwish,q⟩
 | brk=>obtain ⟨σ',H',I,q⟩:=h;exact ⟨σ',H',I.unwish,q⟩
 | cont=>obtain ⟨σ',H',I,q⟩:=h;exact ⟨σ',H',I.unwish,q⟩
 | ret u=>obtain ⟨v,σ',H',I,r,q⟩:=h;exact ⟨v,σ',H',I.unwish,r,q⟩
theorem PSs.nox {st:List Stmt} {t:TS} (h:PSs X.nox st t):PSs X st t:=fun pins s σ H D I hw =>
 wpAny_mono (h pins s σ H D (I.wish _) hw) (fun _ _ q=>q.unwish) fun _ _ z=>False.elim z
end
section
variable {X:Cx} {st:Stmt} {rest:List Stmt} {t u:TS} {e:Expr} {te:TE} {pos:Pos}
def tNext:TS:=fun D σ H=>D.nx σ H
def tSeq (t u:TS):TS:=fun D σ H=>t { D with nx:=u D } σ H
theorem pss_nil:PSs X [] tNext:=fun _ _ σ H _ I h=>wpAny_execs_nil ⟨σ,H,I,h⟩
theorem zab (h1:PS X st t) (h2:PSs X rest u):PSs X (st::rest) (tSeq t u):=by
 intro pins s σ H D I h;refine wpAny_execs_cons (thn (h1 pins s σ H { D with nx:=u D } I h) fun f s1 q=>?_)
 cases f with
 | next =>
   obtain ⟨σ',H',I',q⟩:=q;exact h2 pins s1 σ' H' D I' q
 | ret v=>exact q
 | brk=>exact q
 | cont=>exact q
theorem zae (h1:PS X st t):PSs X [st] t:=by
 intro pins s σ H D I h;refine wpAny_execs_cons (thn (h1 pins s σ H D I h) fun f s1 q=>?_)
 cases f with
 | next=>exact wpAny_execs_nil q
 | ret v=>exact q
 | brk=>exact q
 | cont=>exact q
def tBreak:TS:=fun D σ H=>D.bk σ H
def tCont:TS:=fun D σ H=>D.ct σ H
theorem ps_break:PS X (.Break pos) tBreak:=fun _ _ σ H _ I h=>wpAny_Break ⟨σ,H,I,h⟩
theorem ps_continue:PS X (.Continue pos) tCont:=fun _ _ σ H _ I h=>wpAny_Continue ⟨σ,H,I,h⟩
theorem Inv.quiet {pins:List (Addr×Obj)} {σ:St} {H:Hp} {s:Shared} (I:Inv X pins σ H s):interactive X.env=false:=by simp [interactive,I.ok.kind]
def zmJ (te:TE):TS:=fun D σ H=>te σ H fun _ H1=>D.nx σ H1
theorem zaK (he:PE X e te) (hs:swapsWith e none pos.line X.env=pure false:=by rfl):PS X (.Expr e pos) (zmJ te):=by
 intro pins s σ H D I h;exact wpAny_Expr_any (thn (he pins s σ H _ I h) fun v s1 ⟨x,H1,I1,r1,q1⟩=>⟨σ,H1,I1,q1⟩) I.quiet hs
def tRet (te:TE):TS:=fun D σ H=>te σ H D.rt
theorem zak (he:PE X e te):PS X (.Return (some e) pos) (tRet te):=by
 intro pins s σ H D I h;exact wpAny_Return_some (thn (he pins s σ H _ I h) fun v s1 ⟨x,H1,I1,r1,q1⟩=>⟨x,σ,H1,I1,r1,q1⟩)
def tIfS (c:TT) (t u:TS):TS:=fun D σ H=>c σ H fun b H1=>if b=true then t D σ H1 else u D σ H1
theorem zaS {c:Expr} {a b:List Stmt} {tc:TT} (hc:PT X c tc) (ha:PSs X a t) (hb:PSs X b u):PS X (.If c a b pos) (tIfS tc t u):=by
 intro pins s σ H D I h;refine wpAny_If (thn (hc pins s σ H _ I h) fun d s1 ⟨H1,I1,q1⟩=>?_)
 cases d with
 | true=>exact ha pins s1 σ H1 D I1 q1
 | false=>exact hb pins s1 σ H1 D I1 q1
def tNever:TS:=fun _ _ _=>False
theorem ps_never:PS X st tNever:=fun _ _ _ _ _ _ h=>h.elim
end
abbrev TG:=V→St→Hp→(St→Hp→Prop)→Prop
abbrev TGs:=List V→St→Hp→(St→Hp→Prop)→Prop
def PG (X:Cx) (target:Expr) (t:TG):Prop :=
 ∀ (pins:List (Addr×Obj)) (s:Shared) (σ:St) (H:Hp) (v:V) (u:Value) (Q:St→Hp→Prop),Inv X pins σ H s→RelV v u→t v σ H Q →
  wpAny (model X.prog X.w) X.A (assign target X.env u) (fun _ s'=>∃ σ' H',Inv X pins σ' H' s'∧Q σ' H') X.xe s
def PGs (X:Cx) (ts:List Expr) (t:TGs):Prop :=
 ∀ (pins:List (Addr×Obj)) (s:Shared) (σ:St) (H:Hp) (vs:List V) (us:List Value) (Q:St→Hp→Prop),Inv X pins σ H s→Vals vs us→t vs σ H Q →
  wpAny (model X.prog X.w) X.A (assignInOrder ((assignEach ts X.env).map (·.2)) us) (fun _ s'=>∃ σ' H',Inv X pins σ' H' s'∧Q σ' H') X.xe s
abbrev TSet:=V→V→V→Hp→(Hp→Prop)→Prop
def PSet (X:Cx) (t:TSet):Prop :=
 ∀ (pins:List (Addr×Obj)) (s:Shared) (σ:St) (H:Hp) (o i v:V) (ov iv u:Value) (Q:Hp→Prop),Inv X pins σ H s→RelV o ov→RelV i iv→RelV v u→t o i v H Q →
  wpAny (model X.prog X.w) X.A (setItem ov iv u) (fun _ s'=>∃ H',Inv X pins σ H' s'∧Q H') X.xe s
abbrev TIp:=V→V→Hp→VK→Prop
def PIp (X:Cx) (op:Operator) (t:TIp):Prop :=
 ∀ (pins:List (Addr×Obj)) (s:Shared) (σ:St) (H:Hp) (x y:V) (v u:Value) (Q:VK),Inv X pins σ H s→RelV x v→RelV y u→t x y H Q →
  wpAny (model X.prog X.w) X.A (inplaceOp op v u) (EP X pins σ Q) X.xe s
section
variable {X:Cx} {pos:Pos}
def zcS (i:Nat):TG:=fun v σ H Q=>Q (σ.set i (some v)) H
theorem zar {i:Nat} {x:Str} (hN:X.N.Nodup) (hi:X.N[i]? = some x) (hx:Loc X.env.scope x) (hf:X.fn x=true∨X.env.scope.names.lookup x=some .local:=by first | exact .inl rfl | exact .inr rfl | assumption):PG X (.Name x pos) (zcS i):=by
 intro pins s σ H v u Q I r h;exact wpAny_assign_Name (zhP I hN hi hx r (fun s' I'=>⟨_,H,I',h⟩) hf)
def gNil:TGs:=fun vs σ H Q=>vs=[]∧Q σ H
def zg9 (t:TG) (u:TGs):TGs:=fun vs σ H Q=>∃ v r,vs=v::r∧t v σ H fun σ' H'=>u r σ' H' Q
theorem pgs_nil:PGs X [] gNil:=by
 intro pins s σ H vs us Q I r h;obtain ⟨e,h⟩:=h;subst e
 cases r
 exact assignInOrder_nil ⟨σ,H,I,h⟩
theorem zcg {e:Expr} {es:List Expr} {t:TG} {u:TGs} (h1:PG X e t) (h2:PGs X es u)
  (hs:(assignEach (e::es) X.env).map (·.2)=assign e X.env::(assignEach es X.env).map (·.2):=by rfl):PGs X (e::es) (zg9 t u):=by
 intro pins s σ H vs us Q I r h;obtain ⟨v,vr,e1,h⟩:=h;subst e1
 cases r with
 | cons r rr =>
   rw [hs];refine assignInOrder_cons (thn (h1 pins s σ H _ _ _ I r h) fun _ s1 ⟨σ1,H1,I1,q1⟩=>?_);exact h2 pins s1 σ1 H1 _ _ Q I1 rr q1
def gTup (K:PySem.W.Frag) (n:Nat) (t:TGs):TG:=fun v σ H Q=>∃ a xs,v=.ref a∧SqT K H a xs∧xs.length=n∧t xs σ H Q
theorem zmK {es:List Expr} {k:Nat} {t:TGs} {n:Nat} (hc:X.calm=true) (h:PGs X es t)
  (hn:(assignEach es X.env).length=n:=by rfl) (hst:(assignEach es X.env).findIdx? (·.1)=none:=by rfl):PG X (.Tuple es k pos) (gTup X.K n t):=by
 intro pins s σ H v u Q I r hw;obtain ⟨a,xs,e1,hq,hl,hw⟩:=hw;subst e1
 cases r
 obtain ⟨its,rv,ht,hz⟩:=I.tuple hq;refine assign_Tuple_tuple (I.ok.hd hc) ht (by simp [hn,← hl,rv.length]) hst fun h' hx=>?_;have I1:Inv X pins σ H { s with heap:=h' }:=I.kept (t':=s.toks) fun b o e=>hx b o (Nat.ne_of_lt (Heap.lt_size e)) e;exact h pins _ σ H xs _ Q I1 (by simpa using rv) hw
def gSub (to ti:TE) (t:TSet):TG:=fun v σ H Q=>to σ H fun o H1=>ti σ H1 fun i H2=>t o i v H2 fun H3=>Q σ H3
theorem zmL {o i:Expr} {to ti:TE} {t:TSet} (ho:PE X o to) (hi:PE X i ti) (hs:PSet X t)
  (ha:∀ v,assign (.Subscript o i pos) X.env v=(do
   let ov ← holding [v] (eval o X.env)
   let iv ← holding [v,ov] (eval i X.env)
   standAt pos
   holding [v,ov,iv] (setItem ov iv v)
   release [v,ov,iv] []):=by intro _;rfl):PG X (.Subscript o i pos) (gSub to ti t):=by
 intro pins s σ H v u Q I r h;rw [ha];refine wpAny_bind (wpAny_holding (thn (ho pins s σ H _ I h) fun ov s1 ⟨x,H1,I1,r1,q1⟩=>?_));refine wpAny_bind (wpAny_holding (thn (hi pins s1 σ H1 _ I1 q1) fun iv s2 ⟨y,H2,I2,r2,q2⟩=>?_));refine wpAny_bind (wpAny_standAt (wpAny_bind (wpAny_holding (thn (hs pins s2 σ H2 x y v ov iv u _ I2 r1 r2 r q2) fun _ s3 ⟨H3,I3,q3⟩=>?_))));exact wpAny_release ⟨σ,H3,I3,q3⟩
def tAsg (te:TE) (g:TG):TS:=fun D σ H=>te σ H fun x H1=>g x σ H1 D.nx
theorem zmM {tg e:Expr} {te:TE} {g:TG} (he:PE X e te) (hg:PG X tg g) (hs:swapsWithSole [tg] e pos.line X.env=pure false:=by rfl) (hw:swappedStores [tg] e X.env=pure none:=by rfl)
  (h1:(assignEach [tg] X.env).map (·.2)=[assign tg X.env]:=by rfl):PS X (.Assign [tg] e pos) (tAsg te g):=by
 intro pins s σ H D I h;refine wpAny_Assign_stores (thn (he pins s σ H _ I h) fun v s1 ⟨x,H1,I1,r1,q1⟩=>?_) hs hw;rw [h1];exact thn (hg pins s1 σ H1 x v _ I1 r1 q1) fun _ s2 q=>q
theorem zax {i:Nat} {x:Str} {e:Expr} {te:TE} {pos':Pos} (hN:X.N.Nodup) (hi:X.N[i]? = some x) (hx:Loc X.env.scope x) (he:PE X e te) (hs:swapsWith e (some (.Name x pos')) pos.line X.env=pure false:=by rfl) (hf:X.fn x=true∨X.env.scope.names.lookup x=some .local:=by first | exact .inl rfl | exact .inr rfl | assumption) :
  PS X (.Assign [.Name x pos'] e pos) (tAsg te (zcS i)):=by
 intro pins s σ H D I h;refine wpAny_Assign_Name (thn (he pins s σ H _ I h) fun v s1 ⟨y,H1,I1,r1,q1⟩=>?_) hs;exact zhP I1 hN hi hx r1 (fun s2 I2=>⟨_,H1,I2,q1⟩) hf
def zmN (to ti te:TE) (tget:V→V→Hp→VK→Prop) (tip:TIp) (tset:TSet):TS:=fun D σ H=>to σ H fun o H1=>ti σ H1 fun i H2=>tget o i H2 fun x H3=>te σ H3 fun y H4=>tip x y H4 fun z H5=>tset o i z H5 fun H6=>D.nx σ H6
def PGet (X:Cx) (t:V→V→Hp→VK→Prop):Prop :=
 ∀ (pins:List (Addr×Obj)) (s:Shared) (σ:St) (H:Hp) (o i:V) (ov iv:Value) (Q:VK),Inv X pins σ H s→RelV o ov→RelV i iv→t o i H Q →
  wpAny (model X.prog X.w) X.A (getItem ov iv) (EP X pins σ Q) X.xe s
theorem zlI {o i e:Expr} {to ti te:TE} {tget:V→V→Hp→VK→Prop} {tip:TIp} {tset:TSet} {op:Operator} {tpos:Pos} (ho:PE X o to) (hi:PE X i ti) (hg:PGet X tget) (he:PE X e te) (hp:PIp X op tip) (hs:PSet X tset)
  (ha:∀ ov iv new,augStore i ov iv new=(do holding [new,ov,iv] (setItem ov iv new);release [new,ov,iv] [];pure .next):=by intros;rfl):PS X (.AugAssign (.Subscript o i tpos) op e pos) (zmN to ti te tget tip tset):=by
 intro pins s σ H D I h;refine wpAny_AugAssign_SubscriptAny (thn (ho pins s σ H _ I h) fun ov s1 ⟨x1,H1,I1,r1,q1⟩=>?_) ha;refine thn (hi pins s1 σ H1 _ I1 q1) fun iv s2 ⟨x2,H2,I2,r2,q2⟩=>?_;refine thn (hg pins s2 σ H2 x1 x2 ov iv _ I2 r1 r2 q2) fun old s3 ⟨x3,H3,I3,r3,q3⟩=>?_;refine thn (he pins s3 σ H3 _ I3 q3) fun v s4 ⟨x4,H4,I4,r4,q4⟩=>?_;refine thn (hp pins s4 σ H4 x3 x4 old v _ I4 r3 r4 q4) fun new s5 ⟨x5,H5,I5,r5,q5⟩=>?_;exact thn (hs pins s5 σ H5 x1 x2 x5 ov iv new _ I5 r1 r2 r5 q5) fun _ s6 ⟨H6,I6,q6⟩=>⟨σ,H6,I6,q6⟩
def ipI (f:Int→Int→Int):TIp:=fun x y H Q=>∃ i j,x=.int i∧y=.int j∧Q (.int (f i j)) H
theorem ip_sub:PIp X .Sub (ipI fun i j=>i-j):=by
 intro pins s σ H x y v u Q I r1 r2 h;obtain ⟨i,j,e1,e2,q⟩:=h;subst e1;subst e2;obtain ⟨t,rfl⟩:=r1;obtain ⟨t',rfl⟩:=r2;exact isub_int ⟨.int _,H,I.tok _,⟨_,rfl⟩,q⟩
end
section
variable {X:Cx} {pos:Pos}
def zmO (c:TT) (tb:TS):TS:=fun D σ H=>∃ W:Nat→St→Hp→Prop,(∃ m,W m σ H)∧∀ m σ H,W m σ H →
 c σ H fun b H1=>if b=true then ∃ N:St→Hp→Prop,(∀ σ' H',N σ' H'→∃ m',m' < m∧W m' σ' H')∧tb { D with nx:=N,ct:=N,bk:=D.nx } σ H1 else D.nx σ H1
theorem zhQ {c:Expr} {body:List Stmt} {tc:TT} {tb:TS} (hp:PassesOwn (model X.prog X.w) X.A X.env X.xe) (hc:PT X c tc) (hb:PSs X body tb):PS X (.While c body [] pos) (zmO tc tb):=by
 intro pins s σ H D I h;obtain ⟨W,⟨m0,w0⟩,turn⟩:=h;refine wpAny_While (codeAny_whileLoop (fun n s'=>∃ σ' H',Inv X pins σ' H' s'∧W n σ' H') ?_ m0 ⟨σ,H,I,w0⟩);rintro n s1 ⟨σ1,H1,I1,w1⟩;refine wpAny_passesOwn hp (thn (hc pins s1 σ1 H1 _ I1 (turn n σ1 H1 w1)) fun b s2 ⟨H2,I2,q2⟩=>?_)
 cases b with
 | true =>
   obtain ⟨N,hN,q2⟩:=q2;rw [if_pos rfl];refine wpAny_passesOwn hp (thn (hb pins s2 σ1 H2 _ I2 q2) fun f s3 q3=>?_)
   cases f with
   | next =>
     obtain ⟨σ3,H3,I3,n3⟩:=q3;obtain ⟨m',hm,w3⟩:=hN σ3 H3 n3;exact ⟨m',hm,σ3,H3,I3,w3⟩
   | cont =>
     obtain ⟨σ3,H3,I3,n3⟩:=q3;obtain ⟨m',hm,w3⟩:=hN σ3 H3 n3;exact ⟨m',hm,σ3,H3,I3,w3⟩
   | brk=>exact q3
   | ret v=>exact q3
 | false =>
   rw [if_neg Bool.false_ne_true];exact wpAny_execs_nil ⟨σ1,H2,I2,q2⟩
end
structure It where
 go:Nat→Hp→Prop
 yld:Nat→Hp→V→Hp→Prop
 stop:Nat→Hp→Prop
def FpOk (X:Cx) (pins:List (Addr×Obj)) (H:Hp) (b:Addr):Prop :=
 H b=none∧b≠X.env.locals∧b∉X.fs∧(b∈X.ex∨X.s₀.heap.objs.size≤b)∧(∀ x c,X.env.cells.lookup x=some c→c≠b)∧∀ p∈X.pn++pins,p.1≠b
theorem Inv.fpOk {X:Cx} {pins:List (Addr×Obj)} {σ:St} {H H':Hp} {s:Shared} {b:Addr} (I:Inv X pins σ H s) (hb:s.heap.objs.size≤b) (hn:H' b=none):FpOk X pins H' b:=by
 refine ⟨hn,Nat.ne_of_gt (Nat.lt_of_lt_of_le I.lt hb),I.nofs hb,.inr (Nat.le_trans I.sz hb),fun x c e z=>?_,fun p hp z=>?_⟩
 ·obtain ⟨v,q⟩:=I.cell x c e;exact absurd (Nat.lt_of_lt_of_le q.lt (by rw [z];exact hb)) (Nat.lt_irrefl _)
 ·exact absurd (Nat.lt_of_lt_of_le (Heap.lt_size (I.pin p hp).1) (by rw [z];exact hb)) (Nat.lt_irrefl _)
structure Turn (P:Program) (w:World) (K:PySem.W.Frag) (tg:Expr) (J:It) (fp:List Addr) (it:Addr) (tn:Nat→Heap→Prop):Prop where
 mem:it∈fp
 obj:∀ i h,tn i h→∀ b∈fp,∃ o,h.get? b=some o∧∀ v,o.data≠.cell v
 keep:∀ i h h',tn i h→(∀ b∈fp,∀ o,h.get? b=some o→h'.get? b=some o)→tn i h'
 item:∀ (X:Cx),X.prog=P→X.w=w→X.K=K→X.calm=true→∀ (i:Nat) (pins:List (Addr×Obj)) (s:Shared) (σ:St) (H:Hp) (E:Value→Shared→Prop),Inv X pins σ H s→(∀ b∈fp,FpOk X pins H b)→tn i s.heap→J.go i H →
  wpAny (model P w) X.A (pyNext (.ref it)) (fun r s1=>∃ u,r=some u ∧
   wpAny (model P w) X.A (letOwnedTupleGo tg (.ref it) u) (fun _ s2=>∃ x H',Inv X pins σ H' s2∧RelV x u∧J.yld i H x H'∧tn (i+1) s2.heap∧∀ b∈fp,H' b=none) E s1) E s
 done:∀ (X:Cx),X.prog=P→X.w=w→X.K=K→X.calm=true→∀ (i:Nat) (pins:List (Addr×Obj)) (s:Shared) (σ:St) (H:Hp) (E:Value→Shared→Prop),Inv X pins σ H s→(∀ b∈fp,FpOk X pins H b)→tn i s.heap→J.stop i H →
  wpAny (model P w) X.A (pyNext (.ref it)) (fun r s1=>r=none∧Inv X pins σ H s1) E s
 self:∀ (A:Around) (i:Nat) (s:Shared) (Q:Value→Shared→Prop) (E:Value→Shared→Prop),tn i s.heap→Q (.ref it) s→wpAny (model P w) A (pyIter (.ref it)) Q E s
abbrev TI:=St→Hp→(It→Hp→Prop)→Prop
def PIE (X:Cx) (pins:List (Addr×Obj)) (σ:St) (tg:Expr) (R:It→Hp→Prop) (itv:Value) (s2:Shared):Prop :=
 ∃ (it:Addr) (fp:List Addr) (tn:Nat→Heap→Prop) (J:It) (H':Hp),itv=.ref it∧Inv X pins σ H' s2∧Turn X.prog X.w X.K tg J fp it tn∧tn 0 s2.heap∧(∀ b∈fp,FpOk X pins H' b)∧R J H'
def PI (X:Cx) (tg iter:Expr) (wi:TI):Prop :=
 ∀ (pins:List (Addr×Obj)) (s:Shared) (σ:St) (H:Hp) (R:It→Hp→Prop),Inv X pins σ H s→wi σ H R →
  wpAny (model X.prog X.w) X.A (eval iter X.env) (fun v s1=>wpAny (model X.prog X.w) X.A (pyIter v) (PIE X pins σ tg R) X.xe s1) X.xe s
theorem zmP {M:Model} {A:Around} {E:Value→Shared→Prop} {s:Shared} {tg:Expr} {it:Addr} {u:Value} {o:Obj} {n:String} {vs:Array Value} {Q:Unit→Shared→Prop} (ho:s.heap.get? it=some o) (hc:o.cls=.type n) (hd:o.data=.fields vs)
  (hn:["enumerate","zip","dict_itemiterator","dict_reverseitemiterator","odict_iterator","itertools.zip_longest","itertools.pairwise"].contains n=false) (hQ:Q () s):wpAny M A (letOwnedTupleGo tg (.ref it) u) Q E s:=by
 unfold letOwnedTupleGo
 cases tg <;> first
  | exact wpAny_pure hQ
  | (cases u <;> first
     | exact wpAny_pure hQ
     | (refine wpAny_bind (wpAny_load ho ?_)
        rw [hc,hd];show wpAny M A (if (["enumerate","zip","dict_itemiterator","dict_reverseitemiterator","odict_iterator","itertools.zip_longest","itertools.pairwise"].contains n && vs[0]? == some (rawInt _))=true then _ else _) Q E s;rw [if_neg (by intro h;rw [hn,Bool.false_and] at h;cases h)];exact wpAny_pure hQ))
def Itl (K:PySem.W.Frag) (a:Addr):It :=
 ⟨fun i H=>∃ xs x,SqL K H a xs∧xs[i]? = some x,fun i H x H'=>H'=H∧∀ xs,SqL K H a xs→xs[i]? = some x,fun i H=>∃ xs,SqL K H a xs∧xs.length≤i⟩
def Itr (lo:Int) (n:Nat):It:=⟨fun i _=>i < n,fun i H x H'=>H'=H∧x=.int (lo+i),fun i _=>n≤i⟩
theorem zje {P:Program} {w:World} {K:PySem.W.Frag} {tg:Expr} (a it:Addr):Turn P w K tg (Itl K a) [it] it (fun i h=>h.IsListIter it a i) where
 mem:=by simp
 obj:=fun i h st b hb=>by
  have e:b=it:=by simpa using hb
  subst e;obtain ⟨o,e,c,d⟩:=st;exact ⟨o,e,fun v z=>by rw [d] at z;cases z⟩
 keep:=fun i h h' st k=>st.at fun o e=>k it (by simp) o e
 item:=by
  intro X hP hw hK hc i pins s σ H E I hf st hg;subst hP hw hK;obtain ⟨xs,x,hq,hx⟩:=hg;obtain ⟨its,rv,p,hz⟩:=I.list hq;obtain ⟨u,hu,ru⟩:=rv.get hx;obtain ⟨f0,f1,f2,f3,f4,f5⟩:=hf it (by simp);refine wpAny_pyNext_list_item st p.isList (x:=u) (by simpa using hu) fun h' st' sb=>?_;have I1:Inv X pins σ H { s with heap:=h' }:=I.turned (t':=s.toks) (fun b o hb e=>(sb.2 b hb).trans e) f0 f1 f3 f4 f5;obtain ⟨o,e,c,d⟩:=id st';exact ⟨u,rfl,zmP (s:={ s with heap:=h' }) e c d (by decide) ⟨x,H,I1,ru,⟨rfl,fun ys hy=>by rw [I.list_inj hy hq];exact hx⟩,st',fun b hb=>(hf b hb).1⟩⟩
 done:=by
  intro X hP hw hK hc i pins s σ H E I hf st hg;subst hP hw hK;obtain ⟨xs,hq,hx⟩:=hg;obtain ⟨its,rv,p,hz⟩:=I.list hq;obtain ⟨f0,f1,f2,f3,f4,f5⟩:=hf it (by simp);have hl:=rv.length;exact wpAny_pyNext_list_end (I.ok.hd hc) st p.isList (by simp;omega) fun h' eb=>⟨rfl,I.turned (t':=s.toks) (fun b o hb e=>eb b o hb e) f0 f1 f3 f4 f5⟩
 self:=fun _ _ _ _ _ st h=>wpAny_pyIter_listiter st h
theorem zio {P:Program} {w:World} {K:PySem.W.Frag} {tg:Expr} (it:Addr) (lo:Int) (n:Nat):Turn P w K tg (Itr lo n) [it] it (fun i h=>IsRangeIter h it (lo+(i:Nat) * 1) ((n:Int)-(i:Nat)) 1) where
 mem:=by simp
 obj:=fun i h st b hb=>by
  have e:b=it:=by simpa using hb
  subst e;exact ⟨_,st,fun v z=>by
   have z':Data.fields _=Data.cell v:=z
   cases z'⟩
 keep:=fun i h h' st k=>k it (by simp) _ st
 item:=by
  intro X hP hw hK hc i pins s σ H E I hf st hg;subst hP hw hK;obtain ⟨f0,f1,f2,f3,f4,f5⟩:=hf it (by simp);have W:=Walks.range (prog:=X.prog) (w:=X.w) (I.ok.hd hc) it lo 1 n;refine W.item i s _ _ hg st fun v h' tk hv st' kk=>?_;obtain ⟨t,rfl⟩:=hv;have I1:Inv X pins σ H { s with heap:=h',toks:=tk }:=I.turned (fun b o hb e=>kk b o (by simpa using hb) e) f0 f1 f3 f4 f5;refine ⟨_,rfl,zmP (s:={ s with heap:=h',toks:=tk }) (n:="range_iterator") st' rfl rfl (by decide) ⟨.int (lo+i),H,I1,⟨t,?_⟩,⟨rfl,rfl⟩,st',fun b hb=>(hf b hb).1⟩⟩;rw [Int.mul_one]
 done:=by
  intro X hP hw hK hc i pins s σ H E I hf st hg;subst hP hw hK;obtain ⟨f0,f1,f2,f3,f4,f5⟩:=hf it (by simp);exact wpAny_pyNext_range_end (I.ok.hd hc) st (by have:n≤i:=hg;omega) fun h' eb=>⟨rfl,I.turned (t':=s.toks) (fun b o hb e=>eb b o hb e) f0 f1 f3 f4 f5⟩
 self:=fun _ _ _ _ _ st h=>wpAny_pyIter_rangeiter st h
end L2
namespace L2
open PySem PySem.Spec PyProof.Rows
section
variable {X:Cx} {tg:Expr}
def zkz (K:PySem.W.Frag) (tl:TE):TI:=fun σ H R=>tl σ H fun x H1=>∃ a,x=.ref a∧(∃ xs,SqL K H1 a xs)∧R (Itl K a) H1
theorem zlJ {l:Expr} {tl:TE} (hl:PE X l tl):PI X tg l (zkz X.K tl):=by
 intro pins s σ H R I h;refine thn (hl pins s σ H _ I h) fun v s1 ⟨x,H1,I1,r1,q1⟩=>?_;obtain ⟨a,e,⟨xs,hq⟩,q⟩:=q1;subst e
 cases r1
 obtain ⟨its,rv,p,hz⟩:=I1.list hq;refine wpAny_pyIter_list p.isList ?_;refine ⟨s1.heap.objs.size,[s1.heap.objs.size],_,_,H1,rfl,I1.kept (t':=s1.toks) fun b o e=>Heap.get?_push_of_some _ e,zje a _,⟨_,Heap.get?_push_size _ rfl,rfl,rfl⟩,fun b hb=>?_,q⟩;have e:b=s1.heap.objs.size:=by simpa using hb
 subst e;exact I1.fpOk (Nat.le_refl _) (I1.hok.fresh (Nat.le_refl _))
theorem zhR {pins:List (Addr×Obj)} {σ:St} {H:Hp} {s:Shared} {R:It→Hp→Prop} {E:Value→Shared→Prop} {lo hi:Int} {t u v:Tok} {tk:Nat} (I:Inv X pins σ H s) (h1 : -(2 ^ 62)≤lo) (h2:lo < 2 ^ 62) (h3 : -(2 ^ 62)≤hi) (h4:hi < 2 ^ 62)
  (q:R (Itr lo (hi-lo).toNat) H):wpAny (model X.prog X.w) X.A (pyIter (.ref s.heap.objs.size)) (PIE X pins σ tg R) E { s with heap:=s.heap.push { cls:=.type "range",data:=.fields #[.int lo t,.int hi u,.int 1 v] },toks:=tk }:=by
 refine wpAny_pyIter_range (IsRange.new ..) (small_one h1 h2 h3 h4) ?_;have I1:Inv X pins σ H { s with heap:=s.heap.push { cls:=.type "range",data:=.fields #[.int lo t,.int hi u,.int 1 v] },toks:=tk }:=I.kept fun b o e=>Heap.get?_push_of_some _ e;refine ⟨(s.heap.push { cls:=.type "range",data:=.fields #[.int lo t,.int hi u,.int 1 v] }).objs.size,[(s.heap.push { cls:=.type "range",data:=.fields #[.int lo t,.int hi u,.int 1 v] }).objs.size],_,_,H,rfl,
  I1.kept (t':=tk) fun b o e=>Heap.get?_push_of_some _ e,zio _ lo (hi-lo).toNat,?_,fun b hb=>?_,q⟩
 ·have e1:lo+((0:Nat):Int) * 1=lo:=by simp
  have e2:(((hi-lo).toNat:Nat):Int)-((0:Nat):Int)=Builtin.Range.rangeSize lo hi 1:=by rw [rangeSize_one];split <;> omega
  show IsRangeIter _ _ (lo+((0:Nat):Int) * 1) ((((hi-lo).toNat:Nat):Int)-((0:Nat):Int)) 1;rw [e1,e2];exact Heap.get?_push_size _ rfl
 ·have e:b=(s.heap.push { cls:=.type "range",data:=.fields #[.int lo t,.int hi u,.int 1 v] }).objs.size:=by simpa using hb
  subst e;exact I1.fpOk (Nat.le_refl _) (I1.hok.fresh (Nat.le_refl _))
def zlK (ta:TA):TI:=fun σ H R=>ta σ H fun vs H1=>∃ j:Int,vs=[.int j]∧-(2 ^ 62)≤j∧j < 2 ^ 62∧R (Itr 0 j.toNat) H1
def zlL (ta:TA):TI:=fun σ H R=>ta σ H fun vs H1=>∃ i j:Int,vs=[.int i,.int j]∧(-(2 ^ 62)≤i∧i < 2 ^ 62∧-(2 ^ 62)≤j∧j < 2 ^ 62)∧R (Itr i (j-i).toNat) H1
theorem zaX {a:Expr} {ta:TA} {p pos:Pos} (hg:Gl X "range") (hm:X.mg "range"=none) (ha:PA X [a] ta) (hs:starEach [a] X.env=[(false,eval a X.env)]:=by rfl):PI X tg (.Call (.Name "range" p) [a] [] pos) (zlK ta):=by
 intro pins s σ H R I h;refine Call_ (zeE I hg hm boot_range (PyProof.Rows.callWith_type1 (thn (ha pos pins s σ H _ I h) fun us s1 ⟨vs,H1,I1,r1,q1⟩=>?_) hs rfl));obtain ⟨j,e,q1,q2,q⟩:=q1;subst e
 cases r1 with
 | cons r rr =>
   cases rr
   obtain ⟨t,rfl⟩:=r;exact call_range_1 (zhR I1 (by omega) (by omega) q1 q2 (by simpa using q))
theorem zb6 {a b:Expr} {ta:TA} {p pos:Pos} (hg:Gl X "range") (hm:X.mg "range"=none) (ha:PA X [a,b] ta) (hs:starEach [a,b] X.env=[(false,eval a X.env),(false,eval b X.env)]:=by rfl) (hs2:starEach [b] X.env=[(false,eval b X.env)]:=by rfl) :
  PI X tg (.Call (.Name "range" p) [a,b] [] pos) (zlL ta):=by
 intro pins s σ H R I h;refine Call_ (zeE I hg hm boot_range (PyProof.Rows.callWith_type1 (thn (ha pos pins s σ H _ I h) fun us s1 ⟨vs,H1,I1,r1,q1⟩=>?_) (by rw [hs,hs2]) (by rw [hs2];rfl)));obtain ⟨i,j,e,⟨q1,q2,q3,q4⟩,q⟩:=q1;subst e
 cases r1 with
 | cons r rr =>
   cases rr with
   | cons r' rr =>
     cases rr
     obtain ⟨t,rfl⟩:=r;obtain ⟨t',rfl⟩:=r';exact call_range_2 (zhR I1 q1 q2 q3 q4 q)
def tFor (wi:TI) (g:TG) (tb:TS):TS:=fun D σ H=>wi σ H fun J H1=>∃ W:Nat→Nat→St→Hp→Prop,(∃ m,W 0 m σ H1)∧∀ i m σ H,W i m σ H →
 (J.stop i H∧D.nx σ H)∨(J.go i H∧∃ N:St→Hp→Prop,(∀ σ' H',N σ' H'→∃ m',m' < m∧W (i+1) m' σ' H')∧∀ x H',J.yld i H x H'→g x σ H' fun σ2 H2=>tb { D with nx:=N,ct:=N,bk:=D.nx } σ2 H2)
def zgj (fp:List Addr) (h:Heap):List (Addr×Obj):=fp.filterMap fun b=>(h.get? b).map fun o=>(b,o)
theorem zdf {fp:List Addr} {h:Heap} {b:Addr} {o:Obj} (hb:b∈fp) (e:h.get? b=some o):(b,o)∈zgj fp h:=List.mem_filterMap.mpr ⟨b,hb,by rw [e];rfl⟩
theorem zjf {fp:List Addr} {h:Heap} {p:Addr×Obj} (hp:p∈zgj fp h):p.1∈fp∧h.get? p.1=some p.2:=by
 obtain ⟨b,hb,e⟩:=List.mem_filterMap.mp hp
 cases q:h.get? b with
 | none=>rw [q] at e;cases e
 | some o =>
   rw [q] at e;have e':(b,o)=p:=Option.some.inj e;subst e';exact ⟨hb,q⟩
theorem Inv.pinned {pins:List (Addr×Obj)} {σ:St} {H:Hp} {s:Shared} {fp:List Addr} (I:Inv X pins σ H s) (hf:∀ b∈fp,FpOk X pins H b) (ho:∀ b∈fp,∃ o,s.heap.get? b=some o∧∀ v,o.data≠.cell v):Inv X (pins++zgj fp s.heap) σ H s :=
 I.pins_of fun p hp=>(mem_append.mp hp).elim (fun z=>I.pin p (mem_append_right _ z)) fun z=>by
  obtain ⟨hb,e⟩:=zjf z;obtain ⟨f0,f1,f2,_⟩:=hf p.1 hb;obtain ⟨o,e',d⟩:=ho p.1 hb;rw [e] at e';cases e'
  exact ⟨e,f0,f1,f2,d⟩
theorem Inv.unpinned {pins pl:List (Addr×Obj)} {σ:St} {H:Hp} {s:Shared} (I:Inv X (pins++pl) σ H s):Inv X pins σ H s:=I.pins_of fun p hp=>I.pin p (mem_append_right _ (mem_append_left _ hp))
theorem za2 {iter:Expr} {body:List Stmt} {wi:TI} {g:TG} {tb:TS} {pos:Pos} (hp:PassesOwn (model X.prog X.w) X.A X.env X.xe) (hc:X.calm=true) (hi:PI X tg iter wi) (hg:PG X tg g) (hb:PSs X body tb)
  (hs:∀ x,foldedSetIterable iter X.env x=pure x:=by intro _;rfl):PS X (.For tg iter body [] pos) (tFor wi g tb):=by
 intro pins s σ H D I h;refine wpAny_For (thn (hi pins s σ H _ I h) fun v s1 h1=>thn h1 fun itv s2 h2=>?_) hs;obtain ⟨it,fp,tn,J,H2,e,I2,T,st2,f2,W,⟨m0,w0⟩,turn⟩:=h2;subst e;have stat:∀ {H':Hp},(∀ b∈fp,H' b=none)→∀ b∈fp,FpOk X pins H' b:=fun hn b hb=>⟨hn b hb,(f2 b hb).2⟩
 refine codeAny_forLoop_any (fun n s'=>∃ i σ' H',Inv X pins σ' H' s'∧tn i s'.heap∧(∀ b∈fp,H' b=none)∧W i n σ' H') ?_ m0 ⟨0,σ,H2,I2,st2,fun b hb=>(f2 b hb).1,w0⟩;rintro n s3 ⟨i,σ3,H3,I3,st3,fr3,w3⟩;rcases turn i n σ3 H3 w3 with ⟨stop,qn⟩ | ⟨go,N,hN,step⟩
 ·refine wpAny_passesOwn hp (thn (T.done X rfl rfl rfl hc i pins s3 σ3 H3 X.xe I3 (stat fr3) st3 stop) fun r s4 ⟨hr,I4⟩=>?_);subst hr;exact wpAny_execs_nil ⟨σ3,H3,I4,qn⟩
 ·refine wpAny_passesOwn hp (thn (T.item X rfl rfl rfl hc i pins s3 σ3 H3 X.xe I3 (stat fr3) st3 go) fun r s4 ⟨u,hr,h4⟩=>?_);subst hr;refine wpAny_passesOwn hp (thn h4 fun _ s5 ⟨x,H5,I5,r5,y5,st5,fr5⟩=>?_);have I5':=I5.pinned (stat fr5) (T.obj _ _ st5);refine wpAny_passesOwn hp (thn (hg _ s5 σ3 H5 x u _ I5' r5 (step x H5 y5)) fun _ s6 ⟨σ6,H6,I6,q6⟩=>?_);refine wpAny_passesOwn hp (thn (hb _ s6 σ6 H6 _ I6 q6) fun f s7 q7=>?_);have again:∀ {σ7:St} {H7:Hp},Inv X (pins++zgj fp s5.heap) σ7 H7 s7→N σ7 H7→∃ m,m < n∧∃ i σ' H',Inv X pins σ' H' s7∧tn i s7.heap∧(∀ b∈fp,H' b=none)∧W i m σ' H':=fun {σ7 H7} I7 n7=>by
   obtain ⟨m',hm,w7⟩:=hN σ7 H7 n7;refine ⟨m',hm,i+1,σ7,H7,I7.unpinned,T.keep _ _ _ st5 fun b hb o e=>(I7.pin (b,o) (mem_append_right _ (mem_append_right _ (zdf hb e)))).1,fun b hb=>?_,w7⟩;obtain ⟨o,e,d⟩:=T.obj _ _ st5 b hb;exact (I7.pin (b,o) (mem_append_right _ (mem_append_right _ (zdf hb e)))).2.1
  cases f with
  | next=>obtain ⟨σ7,H7,I7,n7⟩:=q7;exact again I7 n7
  | cont=>obtain ⟨σ7,H7,I7,n7⟩:=q7;exact again I7 n7
  | brk=>obtain ⟨σ7,H7,I7,q7⟩:=q7;exact ⟨σ7,H7,I7.unpinned,q7⟩
  | ret v=>obtain ⟨x7,σ7,H7,I7,r7,q7⟩:=q7;exact ⟨x7,σ7,H7,I7.unpinned,r7,q7⟩
end
theorem zkA {K:PySem.W.Frag} {a:Addr} {xs:List V} {g:TG} {tb:TS} {D:Ends} {σ:St} {H:Hp} (Pv:Nat→St→Hp→Prop) (h0:Pv 0 σ H) (hl:∀ i σ H,i≤xs.length→Pv i σ H→SqL K H a xs)
  (hs:∀ i x σ H,xs[i]? = some x→Pv i σ H→g x σ H fun σ2 H2=>tb { D with nx:=Pv (i+1),ct:=Pv (i+1),bk:=D.nx } σ2 H2) (hd:∀ σ H,Pv xs.length σ H→D.nx σ H) :
  ∃ W:Nat→Nat→St→Hp→Prop,(∃ m,W 0 m σ H)∧∀ i m σ H,W i m σ H →
   ((Itl K a).stop i H∧D.nx σ H)∨((Itl K a).go i H∧∃ N:St→Hp→Prop,(∀ σ' H',N σ' H'→∃ m',m' < m∧W (i+1) m' σ' H')∧∀ x H',(Itl K a).yld i H x H'→g x σ H' fun σ2 H2=>tb { D with nx:=N,ct:=N,bk:=D.nx } σ2 H2):=by
 refine ⟨fun i m σ H=>m=xs.length-i∧i≤xs.length∧Pv i σ H,⟨xs.length,by simp,zero_le _,h0⟩,?_⟩;rintro i m σ H ⟨rfl,hi,p⟩;have q:=hl i σ H hi p
 by_cases hlt:i < xs.length
 ·refine .inr ⟨⟨xs,xs[i],q,by simp [hlt]⟩,Pv (i+1),fun σ' H' p'=>⟨xs.length-(i+1),by omega,rfl,hlt,p'⟩,fun x H' y=>?_⟩;obtain ⟨e,y⟩:=y;subst e;exact hs i x σ _ (y xs q) p
 ·have e:i=xs.length:=by omega
  subst e;exact .inl ⟨⟨xs,q,Nat.le_refl _⟩,hd σ H p⟩
theorem zjg {lo:Int} {n:Nat} {g:TG} {tb:TS} {D:Ends} {σ:St} {H:Hp} (Pv:Nat→St→Hp→Prop) (h0:Pv 0 σ H)
  (hs:∀ i σ H,i < n→Pv i σ H→g (.int (lo+i)) σ H fun σ2 H2=>tb { D with nx:=Pv (i+1),ct:=Pv (i+1),bk:=D.nx } σ2 H2) (hd:∀ σ H,Pv n σ H→D.nx σ H) :
  ∃ W:Nat→Nat→St→Hp→Prop,(∃ m,W 0 m σ H)∧∀ i m σ H,W i m σ H →
   ((Itr lo n).stop i H∧D.nx σ H)∨((Itr lo n).go i H∧∃ N:St→Hp→Prop,(∀ σ' H',N σ' H'→∃ m',m' < m∧W (i+1) m' σ' H')∧∀ x H',(Itr lo n).yld i H x H'→g x σ H' fun σ2 H2=>tb { D with nx:=N,ct:=N,bk:=D.nx } σ2 H2):=by
 refine ⟨fun i m σ H=>m=n-i∧i≤n∧Pv i σ H,⟨n,by simp,zero_le _,h0⟩,?_⟩;rintro i m σ H ⟨rfl,hi,p⟩
 by_cases hlt:i < n
 ·refine .inr ⟨hlt,Pv (i+1),fun σ' H' p'=>⟨n-(i+1),by omega,rfl,hlt,p'⟩,fun x H' y=>?_⟩;obtain ⟨e,y⟩:=y;subst e y;exact hs i σ _ hlt p
 ·have e:i=n:=by omega
  subst e;exact .inl ⟨Nat.le_refl _,hd σ H p⟩
end L2
namespace L2
open PySem PySem.Spec PyProof.Rows
abbrev R2:=V→V→Hp→VK→Prop
def OpR (X:Cx) (f:Value→Value→Sem Value) (r:R2):Prop :=
 ∀ (pins:List (Addr×Obj)) (s:Shared) (σ:St) (H:Hp) (x y:V) (v u:Value) (Q:VK),Inv X pins σ H s→RelV x v→RelV y u→r x y H Q →
  wpAny (model X.prog X.w) X.A (f v u) (EP X pins σ Q) X.xe s
def zdj (X:Cx) (f:Value) (r:List V→Hp→VK→Prop):Prop :=
 ∀ (pins:List (Addr×Obj)) (s:Shared) (σ:St) (H:Hp) (xs:List V) (us:List Value) (Q:VK),Inv X pins σ H s→Vals xs us→r xs H Q →
  wpAny (model X.prog X.w) X.A (call f us) (EP X pins σ Q) X.xe s
def TruR (X:Cx) (r:V→Hp→(Bool→Hp→Prop)→Prop):Prop :=
 ∀ (pins:List (Addr×Obj)) (s:Shared) (σ:St) (H:Hp) (x:V) (v:Value) (Q:Bool→Hp→Prop),Inv X pins σ H s→RelV x v→r x H Q →
  wpAny (model X.prog X.w) X.A (truthy v) (TP X pins σ Q) X.xe s
def tOp (r:R2) (ta tb:TE):TE:=fun σ H Q=>ta σ H fun x H1=>tb σ H1 fun y H2=>r x y H2 Q
def rI (C:Int→Int→Prop) (g:Int→Int→V):R2:=fun x y H Q=>∃ i j,x=.int i∧y=.int j∧C i j∧Q (g i j) H
def rI0 (g:Int→Int→V):R2:=fun x y H Q=>∃ i j,x=.int i∧y=.int j∧Q (g i j) H
section
variable {X:Cx} {a b c:Expr} {ta tb tc:TE} {pos:Pos}
theorem binT (ha:PE X a ta) (hb:PE X b tb) {pins:List (Addr×Obj)} {s:Shared} {σ:St} {H:Hp} {R:V→V→Hp→Prop} (I:Inv X pins σ H s)
  (h:ta σ H fun x H1=>tb σ H1 fun y H2=>R x y H2) {Q:Value→Shared→Prop} {f:Value→Value→Sem Value}
  (hf:∀ v u s2 x y H2,Inv X pins σ H2 s2→RelV x v→RelV y u→R x y H2→wpAny (model X.prog X.w) X.A (f v u) Q X.xe s2) :
  wpAny (model X.prog X.w) X.A (eval a X.env) (fun v s₁=>wpAny (model X.prog X.w) X.A (eval b X.env) (fun u s₂=>wpAny (model X.prog X.w) X.A (f v u) Q X.xe s₂) X.xe s₁) X.xe s:=by
 refine thn (ha pins s σ H _ I h) fun v s1 ⟨x,H1,I1,r1,q1⟩=>?_;refine thn (hb pins s1 σ H1 _ I1 q1) fun u s2 ⟨y,H2,I2,r2,q2⟩=>?_;exact hf v u s2 x y H2 I2 r1 r2 q2
theorem zat {op:Operator} {r:R2} (ho:OpR X (binaryOp op) r) (ha:PE X a ta) (hb:PE X b tb):PE X (.BinOp a op b pos) (tOp r ta tb):=by
 intro pins s σ H Q I h;exact wpAny_BinOp (binT ha hb I h fun v u s2 x y H2 I2 rx ry q=>ho pins s2 σ H2 x y v u Q I2 rx ry q)
theorem opI {f:Value→Value→Sem Value} {C:Int→Int→Prop} {g:Int→Int→Int}
  (rule:∀ (i j:Int) (t u:Tok) (s:Shared) (Q:Value→Shared→Prop) (E:Value→Shared→Prop),C i j→Q (.int (g i j) s.toks) { s with toks:=s.toks+1 }→wpAny (model X.prog X.w) X.A (f (.int i t) (.int j u)) Q E s) :
  OpR X f (rI C fun i j=>.int (g i j)):=by
 intro pins s σ H x y v u Q I rx ry h;obtain ⟨i,j,rfl,rfl,hc,q⟩:=h;obtain ⟨t,rfl⟩:=rx;obtain ⟨t',rfl⟩:=ry;exact rule i j t t' s _ _ hc ⟨.int (g i j),H,I.tok _,⟨_,rfl⟩,q⟩
theorem opI0 {f:Value→Value→Sem Value} {g:Int→Int→Int}
  (rule:∀ (i j:Int) (t u:Tok) (s:Shared) (Q:Value→Shared→Prop) (E:Value→Shared→Prop),Q (.int (g i j) s.toks) { s with toks:=s.toks+1 }→wpAny (model X.prog X.w) X.A (f (.int i t) (.int j u)) Q E s) :
  OpR X f (rI0 fun i j=>.int (g i j)):=by
 intro pins s σ H x y v u Q I rx ry h;obtain ⟨i,j,rfl,rfl,q⟩:=h;obtain ⟨t,rfl⟩:=rx;obtain ⟨t',rfl⟩:=ry;exact rule i j t t' s _ _ ⟨.int (g i j),H,I.tok _,⟨_,rfl⟩,q⟩
theorem opB0 {f:Value→Value→Sem Value} {g:Int→Int→Bool}
  (rule:∀ (i j:Int) (t u:Tok) (s:Shared) (Q:Value→Shared→Prop) (E:Value→Shared→Prop),Q (.bool (g i j)) s→wpAny (model X.prog X.w) X.A (f (.int i t) (.int j u)) Q E s) :
  OpR X f (rI0 fun i j=>.bl (g i j)):=by
 intro pins s σ H x y v u Q I rx ry h;obtain ⟨i,j,rfl,rfl,q⟩:=h;obtain ⟨t,rfl⟩:=rx;obtain ⟨t',rfl⟩:=ry;exact rule i j t t' s _ _ ⟨.bl (g i j),H,I,rfl,q⟩
theorem op_add:OpR X (binaryOp .Add) (rI0 fun i j=>.int (i+j)):=opI0 fun _ _ _ _ _ _ _ q=>add_int q
theorem op_sub:OpR X (binaryOp .Sub) (rI0 fun i j=>.int (i-j)):=opI0 fun _ _ _ _ _ _ _ q=>sub_int q
theorem op_mod:OpR X (binaryOp .Mod) (rI (fun _ j=>0 < j) fun i j=>.int (i % j)):=opI fun i j _ _ _ _ _ hc q=>by
 have h1:(0:Int) < j:=hc;exact mod_int' (by omega) (by rw [Int.fmod_eq_emod_of_nonneg i (by omega)];exact q)
end
def scal:V→V→Bool
 | .non,.non=>true | .non,.int _=>true | .int _,.non=>true | .non,.bl _=>true | .bl _,.non=>true | .non,.str _=>true | .str _,.non=>true
 | .int _,.int _=>true | .bl _,.bl _=>true | .str _,.str _=>true | .byt _,.byt _=>true
 | .int _,.str _=>true | .str _,.int _=>true | .bl _,.str _=>true | .str _,.bl _=>true
 | _,_=>false
def rEq:R2:=fun x y H Q=>scal x y=true∧Q (.bl (decide (x=y))) H
def rNe:R2:=fun x y H Q=>scal x y=true∧Q (.bl (!decide (x=y))) H
theorem zjh {i j:Int}:decide (V.int i=V.int j)=(i == j):=by
 rw [Bool.eq_iff_iff];simp
theorem zls {i j:Bool}:decide (V.bl i=V.bl j)=(i == j):=by
 rw [Bool.eq_iff_iff];simp
theorem zji {i j:Str}:decide (V.str i=V.str j)=(i == j):=by
 rw [Bool.eq_iff_iff];simp
theorem zjj {i j:Array UInt8}:decide (V.byt i=V.byt j)=(i.toList == j.toList):=by
 rw [Bool.eq_iff_iff]
 cases i
 cases j
 simp
section
variable {X:Cx} {a b c:Expr} {ta tb tc:TE} {pos:Pos}
theorem zaZ {pins:List (Addr×Obj)} {σ:St} {H:Hp} {s:Shared} {Q:VK} {k k':Bool} (I:Inv X pins σ H s) (q:Q (.bl k) H) (e:k=k'):EP X pins σ Q (.bool k') s:=by
 subst e;exact ⟨.bl k,H,I,rfl,q⟩
theorem op_eq:OpR X (compareOp .Eq) rEq:=by
 intro pins s σ H x y v u Q I rx ry h;obtain ⟨hs,q⟩:=h
 cases x with
 | non =>
   cases rx
   cases y with
   | non=>cases ry;exact PySem.EqNone.eq_none_none (zaZ I q (by simp))
   | bl j=>cases ry;exact PySem.EqNone.eq_none_bool (zaZ I q (by simp))
   | int j=>obtain ⟨t',rfl⟩:=ry;exact PySem.EqNone.eq_none_int (zaZ I q (by simp))
   | str j=>obtain ⟨t',rfl⟩:=ry;exact PySem.EqNone.eq_none_str (zaZ I q (by simp))
   | _=>exact absurd (show false=true from hs) Bool.false_ne_true
 | bl i =>
   cases rx
   cases y with
   | non=>cases ry;exact PySem.EqNone.eq_bool_none (zaZ I q (by simp))
   | bl j=>cases ry;exact eq_bool (zaZ I q zls)
   | str j=>obtain ⟨t',rfl⟩:=ry;exact PySem.EqMixed.eq_bool_str (zaZ I q (by simp))
   | _=>exact absurd (show false=true from hs) Bool.false_ne_true
 | int i =>
   obtain ⟨t,rfl⟩:=rx
   cases y with
   | non=>cases ry;exact PySem.EqNone.eq_int_none (zaZ I q (by simp))
   | int j=>obtain ⟨t',rfl⟩:=ry;exact eq_int (zaZ I q zjh)
   | str j=>obtain ⟨t',rfl⟩:=ry;exact PySem.EqMixed.eq_int_str (zaZ I q (by simp))
   | _=>exact absurd (show false=true from hs) Bool.false_ne_true
 | str i =>
   obtain ⟨t,rfl⟩:=rx
   cases y with
   | non=>cases ry;exact PySem.EqNone.eq_str_none (zaZ I q (by simp))
   | bl j=>cases ry;exact PySem.EqMixed.eq_str_bool (zaZ I q (by simp))
   | int j=>obtain ⟨t',rfl⟩:=ry;exact PySem.EqMixed.eq_str_int (zaZ I q (by simp))
   | str j=>obtain ⟨t',rfl⟩:=ry;exact eq_str (zaZ I q zji)
   | _=>exact absurd (show false=true from hs) Bool.false_ne_true
 | byt i =>
   obtain ⟨t,rfl⟩:=rx
   cases y with
   | byt j=>obtain ⟨t',rfl⟩:=ry;exact PySem.W.eq_bytes (zaZ I q zjj)
   | _=>exact absurd (show false=true from hs) Bool.false_ne_true
 | _=>cases y <;> exact absurd (show false=true from hs) Bool.false_ne_true
theorem op_ne:OpR X (compareOp .NotEq) rNe:=by
 intro pins s σ H x y v u Q I rx ry h;obtain ⟨hs,q⟩:=h
 cases x with
 | non =>
   cases rx
   cases y with
   | non=>cases ry;exact PySem.EqNone.ne_none_none (zaZ I q (by simp))
   | bl j=>cases ry;exact PySem.EqNone.ne_none_bool (zaZ I q (by simp))
   | int j=>obtain ⟨t',rfl⟩:=ry;exact PySem.EqNone.ne_none_int (zaZ I q (by simp))
   | str j=>obtain ⟨t',rfl⟩:=ry;exact PySem.EqNone.ne_none_str (zaZ I q (by simp))
   | _=>exact absurd (show false=true from hs) Bool.false_ne_true
 | bl i =>
   cases rx
   cases y with
   | non=>cases ry;exact PySem.EqNone.ne_bool_none (zaZ I q (by simp))
   | bl j=>cases ry;exact ne_bool (zaZ I q (congrArg not zls))
   | str j=>obtain ⟨t',rfl⟩:=ry;exact PySem.EqMixed.ne_bool_str (zaZ I q (by simp))
   | _=>exact absurd (show false=true from hs) Bool.false_ne_true
 | int i =>
   obtain ⟨t,rfl⟩:=rx
   cases y with
   | non=>cases ry;exact PySem.EqNone.ne_int_none (zaZ I q (by simp))
   | int j=>obtain ⟨t',rfl⟩:=ry;exact ne_int (zaZ I q (congrArg not zjh))
   | str j=>obtain ⟨t',rfl⟩:=ry;exact PySem.EqMixed.ne_int_str (zaZ I q (by simp))
   | _=>exact absurd (show false=true from hs) Bool.false_ne_true
 | str i =>
   obtain ⟨t,rfl⟩:=rx
   cases y with
   | non=>cases ry;exact PySem.EqNone.ne_str_none (zaZ I q (by simp))
   | bl j=>cases ry;exact PySem.EqMixed.ne_str_bool (zaZ I q (by simp))
   | int j=>obtain ⟨t',rfl⟩:=ry;exact PySem.EqMixed.ne_str_int (zaZ I q (by simp))
   | str j=>obtain ⟨t',rfl⟩:=ry;exact ne_str (zaZ I q (congrArg not zji))
   | _=>exact absurd (show false=true from hs) Bool.false_ne_true
 | byt i =>
   obtain ⟨t,rfl⟩:=rx
   cases y with
   | byt j=>obtain ⟨t',rfl⟩:=ry;exact PySem.W.ne_bytes (zaZ I q (congrArg not zjj))
   | _=>exact absurd (show false=true from hs) Bool.false_ne_true
 | _=>cases y <;> exact absurd (show false=true from hs) Bool.false_ne_true
theorem op_lt:OpR X (compareOp .Lt) (rI0 fun i j=>.bl (decide (i < j))):=opB0 fun _ _ _ _ _ _ _ q=>lt_int q
theorem op_le:OpR X (compareOp .LtE) (rI0 fun i j=>.bl (decide (i≤j))):=opB0 fun _ _ _ _ _ _ _ q=>le_int q
theorem op_gt:OpR X (compareOp .Gt) (rI0 fun i j=>.bl (decide (j < i))):=opB0 fun _ _ _ _ _ _ _ q=>gt_int q
theorem op_ge:OpR X (compareOp .GtE) (rI0 fun i j=>.bl (decide (j≤i))):=opB0 fun _ _ _ _ _ _ _ q=>ge_int q
theorem op_isN:OpR X (compareOp .Is) (fun x y H Q=>y=.non∧Q (.bl (decide (x=.non))) H):=by
 intro pins s σ H x y v u Q I rx ry h;obtain ⟨rfl,q⟩:=h
 cases ry
 refine is_none_gen (zaZ I q ?_)
 cases x <;> first
  | (cases rx;rfl)
  | (obtain ⟨t,rfl⟩:=rx;rfl)
theorem op_notN:OpR X (compareOp .IsNot) (fun x y H Q=>y=.non∧Q (.bl (!decide (x=.non))) H):=by
 intro pins s σ H x y v u Q I rx ry h;obtain ⟨rfl,q⟩:=h
 cases ry
 refine isnot_none_gen (zaZ I q ?_)
 cases x <;> first
  | (cases rx;rfl)
  | (obtain ⟨t,rfl⟩:=rx;rfl)
theorem OpR.or {f:Value→Value→Sem Value} {r r':R2} (h:OpR X f r) (h':OpR X f r'):OpR X f (fun x y H Q=>r x y H Q∨r' x y H Q):=by
 intro pins s σ H x y v u Q I rx ry q;rcases q with q | q
 ·exact h pins s σ H x y v u Q I rx ry q
 ·exact h' pins s σ H x y v u Q I rx ry q
theorem zay (b:Expr) {op:CmpOp} (h:op≠.In:=by decide) (h2:op≠.NotIn:=by decide):behindInMarks op b=false:=by
 have e1:(op == CmpOp.In)=false:=by cases op <;> first | rfl | exact absurd rfl h
 have e2:(op == CmpOp.NotIn)=false:=by cases op <;> first | rfl | exact absurd rfl h2
 cases b <;> simp [behindInMarks,e1,e2]
theorem zb7 {op:CmpOp} {r:R2} (ho:OpR X (compareOp op) r) (ha:PE X a ta) (hb:PE X b tb) (hm:behindInMarks op b=false):PE X (.Compare a [op] [b] pos) (tOp r ta tb):=by
 intro pins s σ H Q I h;exact wpAny_Compare1 (binT ha hb I h fun v u s2 x y H2 I2 rx ry q=>ho pins s2 σ H2 x y v u Q I2 rx ry q) hm
def zmQ (t:TE):TT:=fun σ H Q=>t σ H fun x H'=>∃ k,x=.bl k∧Q k H'
theorem zap {op:CmpOp} {r:R2} (ho:OpR X (compareOp op) r) (ha:PE X a ta) (hb:PE X b tb) (hm:behindInMarks op b=false):PT X (.Compare a [op] [b] pos) (zmQ (tOp r ta tb)):=by
 intro pins s σ H Q I h;refine wpAny_isTrue_Compare1 (thn (ha pins s σ H _ I h) fun v s1 ⟨x,H1,I1,r1,q1⟩=>thn (hb pins s1 σ H1 _ I1 q1) fun u s2 ⟨y,H2,I2,r2,q2⟩ =>
  thn (ho pins s2 σ H2 x y v u _ I2 r1 r2 q2) fun c s3 ⟨z,H3,I3,r3,k,e,q3⟩=>?_) hm
 subst e
 cases r3
 exact wpAny_truthy_bool ⟨H3,I3,q3⟩
def TruV (K:PySem.W.Frag) (x:V) (H:Hp) (k:Bool):Prop :=
 match x with
 | .non=>k=false
 | .bl b=>k=b
 | .int i=>k=(i != 0)
 | .str y=>y.length≤sizeLine∧k=((y.length:Int) != 0)
 | .byt y=>y.size≤sizeLine∧k=((y.size:Int) != 0)
 | .ref p=>(∃ xs,SqL K H p xs∧k = !xs.isEmpty)∨(∃ xs,SqT K H p xs∧k = !xs.isEmpty)∨∃ kvs,H p=some (.dK kvs)∧k = !kvs.isEmpty
 | _=>False
theorem ziq {κ:Type} {kvs:List (κ×V)} {vs:List (κ×Value)} (r:KV kvs vs):(!vs.isEmpty) = !kvs.isEmpty:=by
 cases r <;> rfl
theorem zft {xs:List V} {its:List Value} (r:Vals xs its):(!its.toArray.isEmpty) = !xs.isEmpty:=by
 cases r <;> simp
theorem line63:(sizeLine:Nat) < 2 ^ 63:=by rw [sizeLine_eq];decide
theorem tru_ok:TruR X (fun x H Q=>∃ k,TruV X.K x H k∧Q k H):=by
 intro pins s σ H x v Q I rx h;obtain ⟨k,e,q⟩:=h;have hl:=line63;have hs:sizeLine=16777216:=sizeLine_eq
 cases x with
 | non =>
   cases rx
   have e':k=false:=e;subst e';exact truthy_none ⟨H,I,q⟩
 | bl b =>
   cases rx
   have e':k=b:=e;subst e';exact wpAny_truthy_bool ⟨H,I,q⟩
 | int i =>
   obtain ⟨t,rfl⟩:=rx;have e':k=(i != 0):=e;subst e';exact PySem.P.truthy_int ⟨H,I,q⟩
 | str y =>
   obtain ⟨t,rfl⟩:=rx;obtain ⟨hy,e'⟩:y.length≤sizeLine∧k=((y.length:Int) != 0):=e;subst e';exact PySem.P.truthy_str (by omega) ⟨H,I.tok _,q⟩
 | byt y =>
   obtain ⟨t,rfl⟩:=rx;obtain ⟨hy,e'⟩:y.size≤sizeLine∧k=((y.size:Int) != 0):=e;subst e';exact PySem.W.truthy_bytes (by omega) ⟨H,I.tok _,q⟩
 | ref p =>
   cases rx
   have e':(∃ xs,SqL X.K H p xs∧k = !xs.isEmpty)∨(∃ xs,SqT X.K H p xs∧k = !xs.isEmpty)∨∃ kvs,H p=some (.dK kvs)∧k = !kvs.isEmpty:=e;rcases e' with ⟨xs,hx,e'⟩ | ⟨xs,hx,e'⟩ | ⟨kvs,hx,e'⟩
   ·subst e';obtain ⟨its,r,pl,hz⟩:=I.list hx;have hlen:=r.length;exact wpAny_truthy_list pl.isList (by simp only [size_toArray];omega) ⟨H,I.tok _,by rw [zft r];exact q⟩
   ·subst e';obtain ⟨its,r,pl,hz⟩:=I.tuple hx;have hlen:=r.length;exact truthy_tuple pl (by simp only [size_toArray];omega) ⟨H,I.tok _,by rw [zft r];exact q⟩
   ·subst e';obtain ⟨hz,hS,vs,r,m⟩:kvs.length≤sizeLine∧(p == sysModules)=false∧∃ vs,KV kvs vs∧s.heap.DictOf (zbI X.prog X.w) p vs:=I.hok p _ hx;have hlen:kvs.length=vs.length:=Paired.length r;exact wpAny_truthy_dict hS m (by omega) ⟨H,I.tok _,by rw [ziq r];exact q⟩
 | _=>exact (show False from e).elim
theorem zkB (ha:PE X a ta) (he:∀ whole,isTrue a X.env whole=(do let v ← whole;standAt a.pos;holding [v] (truthy v))) :
  PT X a (fun σ H Q=>ta σ H fun x H'=>∃ k,TruV X.K x H' k∧Q k H'):=by
 intro pins s σ H Q I h;exact isTrue_plain (thn (ha pins s σ H _ I h) fun v s1 ⟨x,H1,I1,r1,q1⟩=>tru_ok pins s1 σ H1 x v Q I1 r1 q1) (he _)
theorem op_add_str:OpR X (binaryOp .Add) (fun x y H Q=>∃ i j,x=.str i∧y=.str j∧i.length+j.length≤sizeLine∧Q (.str (i++j)) H):=by
 intro pins s σ H x y v u Q I rx ry h;obtain ⟨i,j,rfl,rfl,hz,q⟩:=h;obtain ⟨t,rfl⟩:=rx;obtain ⟨t',rfl⟩:=ry;exact add_str (fun t' tk=>⟨.str (i++j),H,I.tok _,⟨_,rfl⟩,q⟩) hz
theorem vals1 {x:V} {us:List Value} (r:Vals [x] us):∃ u,us=[u]∧RelV x u:=by
 cases r with
 | cons r1 r2=>cases r2;exact ⟨_,rfl,r1⟩
theorem vals2 {x y:V} {us:List Value} (r:Vals [x,y] us):∃ u w',us=[u,w']∧RelV x u∧RelV y w':=by
 cases r with
 | cons r1 r2 =>
   cases r2 with
   | cons r3 r4=>cases r4;exact ⟨_,_,rfl,r1,r3⟩
theorem call_abs:zdj X (.builtin "abs") (fun xs H Q=>∃ i,xs=[.int i]∧Q (.int (if i < 0 then -i else i)) H):=by
 intro pins s σ H xs us Q I r h;obtain ⟨i,rfl,q⟩:=h;obtain ⟨u,rfl,t,rfl⟩:=vals1 r;exact call_abs_int fun u tk=>⟨.int (if i < 0 then -i else i),H,I.tok _,⟨_,rfl⟩,q⟩
theorem zjk (hc:X.calm=true):zdj X (.builtin "max") (fun xs H Q=>∃ i j,xs=[.int i,.int j]∧Q (.int (if j > i then j else i)) H):=by
 intro pins s σ H xs us Q I r h;obtain ⟨i,j,rfl,q⟩:=h;obtain ⟨u,w',rfl,⟨t,rfl⟩,⟨t',rfl⟩⟩:=vals2 r;refine max_two_ints (I.ok.hd hc) fun h' tk k=>⟨_,H,I.kept k,?_,q⟩
 by_cases hj:j > i
 ·rw [if_pos hj,if_pos hj];exact ⟨_,rfl⟩
 ·rw [if_neg hj,if_neg hj];exact ⟨_,rfl⟩
theorem zjl (hc:X.calm=true):zdj X (.builtin "min") (fun xs H Q=>∃ i j,xs=[.int i,.int j]∧Q (.int (if j < i then j else i)) H):=by
 intro pins s σ H xs us Q I r h;obtain ⟨i,j,rfl,q⟩:=h;obtain ⟨u,w',rfl,⟨t,rfl⟩,⟨t',rfl⟩⟩:=vals2 r;refine min_two_ints (I.ok.hd hc) fun h' tk k=>⟨_,H,I.kept k,?_,q⟩
 by_cases hj:j < i
 ·rw [if_pos hj,if_pos hj];exact ⟨_,rfl⟩
 ·rw [if_neg hj,if_neg hj];exact ⟨_,rfl⟩
theorem call_int1:zdj X (.type "int") (fun xs H Q=>(∃ i,xs=[.int i]∧Q (.int i) H)∨∃ k,xs=[.bl k]∧Q (.int (if k then 1 else 0)) H):=by
 intro pins s σ H xs us Q I r h;rcases h with ⟨i,rfl,q⟩ | ⟨k,rfl,q⟩
 ·obtain ⟨u,rfl,t,rfl⟩:=vals1 r;exact call_int_int ⟨.int i,H,I,⟨_,rfl⟩,q⟩
 ·obtain ⟨u,rfl,r1⟩:=vals1 r
  cases r1
  exact call_int_bool ⟨.int (if k then 1 else 0),H,I.tok _,⟨_,rfl⟩,q⟩
end
end L2
namespace L2
open PySem PySem.Spec PyProof.Rows
structure ObjM (h:Heap) (x dx C:Addr) (mA:Str→Option Value):Prop where
 obj:h.get? x=some (instObj C dx)
 ns:h.Ns1 dx mA
 ne:dx≠x
theorem zjm {h:Heap} {dx:Addr} {mA:Str→Option Value} (n:h.Ns1 dx mA):∃ od,h.get? dx=some od∧∀ name,lookIn name od=some (mA name):=by
 obtain ⟨o,es,ep,ho,hd,hk,_,hm⟩:=n;refine ⟨o,ho,fun name=>?_⟩;have e:=hm name;unfold nsFind findBy at e;rw [← Array.find?_toList] at e;unfold lookIn;rw [hd];dsimp only;split
 ·rename_i y q
  rw [q] at e;exact congrArg some e
 ·rename_i q
  rw [q] at e;have a:es.toList.any (·.refKey)=false:=by
   rw [List.any_eq_false];intro y hy;obtain ⟨z,t,hkey⟩:=hk y (Array.mem_toList_iff.mp hy);simp [DictEntry.refKey,hkey]
  have a':¬es.toList.any (·.refKey)=true:=by rw [a];exact Bool.false_ne_true
  rw [if_neg a'];exact congrArg some e
theorem ObjM.look {h:Heap} {x dx C:Addr} {mA:Str→Option Value} (I:ObjM h x dx C mA):∃ od,PySem.W.InstAt h x (instObj C dx) C (some od)∧∀ name,lookIn name od=some (mA name) :=
 let ⟨od,ho,hl⟩:=zjm I.ns
 ⟨od,⟨I.obj,rfl,rfl,ho⟩,hl⟩
section
variable {prog:Program} {w:World} {A:Around} {E:Value→Shared→Prop} {s:Shared} {K:PySem.W.Frag} {x dx C f:Addr} {mA:Str→Option Value} {name:Str} {v:Value}
theorem zlM {expr:Bool} {Q:Value→Shared→Prop} (X:K.In s.heap) (I:ObjM s.heap x dx C mA) (hg:plainGet K C name=true) (hh:hasDictIn K C=true)
  (ha:findIn K (.ref C) name=some none) (hv:mA name=some v) (hv':handedIn v=true) (h:Q v { s with toks:=s.toks+1 }) :
  wpAny (model prog w) A (getAttr (.ref x) name expr) Q E s:=by
 obtain ⟨od,J,hl⟩:=I.look;exact PySem.W.get_value X J (plainGet_of hg).1 (PySem.W.findObj_own hh ha rfl (by rw [hl,hv])) hv' h
theorem zkC {pl:Sem Bool} {Q:Value×List Value→Shared→Prop} (X:K.In s.heap) (I:ObjM s.heap x dx C mA) (hg:plainGet K C name=true)
  (hf:findIn K (.ref C) name=some (some (.ref f))) (ht:isFn K (.ref f)=true) (hv:mA name=none) (h:Q (.ref f,[.ref x]) s) :
  wpAny (model prog w) A (getMethod (.ref x) name pl) Q E s:=by
 obtain ⟨od,J,hl⟩:=I.look;exact PySem.W.method_fn X J (plainGet_of hg).1 (plainGet_of hg).2 hf (beq_iff_eq.mp ht) (by show (lookIn name od).map (·.isSome)=some false;rw [hl,hv];rfl) h
theorem zlN {ns:List Str} {Q:Unit→Shared→Prop} (X:K.In s.heap) (I:ObjM s.heap x dx C mA)
  (hs:findIn K (.ref C) "__setattr__"=some (some (.builtin "object.__setattr__"))) (hp:plainOver K C=true) (ht:takerIn K C name=some none) (hh:hasDictIn K C=true)
  (hw:PySem.Within mA ns) (hsz:ns.length≤sizeLine)
  (h:∀ h',ObjM h' x dx C (fun y=>if y=name then some v else mA y)→Heap.SameBut dx s.heap h'→Q () { s with heap:=h',toks:=s.toks+2 }) :
  wpAny (model prog w) A (setAttr (.ref x) name v) Q E s:=by
 obtain ⟨od,J,hl⟩:=I.look;refine PySem.W.set_plain X J hs (PySem.W.osa_open (s:={ s with toks:=s.toks+1 }) (r:=none) X J hp ht fun b=>?_);obtain ⟨cd,hc,hd'⟩:=PySem.W.any_some hh;have hx:s.heap.get? x=some ⟨.ref C,some dx,.plain,#[]⟩:=I.obj;refine wpAny_bind (wpAny_pure (wpAny_bind (wpAny_bind (wpAny_loadPart hx (wpAny_bind (PySem.W.Looks.here (s:={ s with toks:=s.toks+1 }) (PySem.W.looks_clsIn X hc) ?_))))));rw [hd'];refine wpAny_pure (a:=some dx) (wpAny_bind (wpAny_pure (wpAny_bind ?_)));refine wpAny_nsSet1 (s:={ s with toks:=s.toks+1 }) I.ns fun h' hn2 hs2=>?_;obtain ⟨oD,esD,epD,hoD,hdD,hcD⟩:=hn2.count (PySem.Within.cons name v hw);refine wpAny_bind (wpAny_lookBehind hoD (by rw [hdD];exact pastItsLine_dict (Nat.le_trans hcD (by rw [length_cons];omega))) ?_);exact wpAny_pure (h _ ⟨(hs2.2 _ (Ne.symm I.ne)).trans I.obj,hn2,I.ne⟩ hs2)
theorem zkD {R:Result→Shared→Prop} {vs:List Value} {kw:List (Str×Value)} (X:K.In s.heap) (hm:makesIn K C=true)
  (hi:findIn K (.ref C) "__init__"=some (some (.ref f))) (hf:typeIn K (.ref f)=some (.type "function"))
  (h:codeAny (model prog w) (A.under (.builtin "type.__call__" ⟨.ref C::vs,kw⟩)) (.call (.ref f) ⟨.ref (s.heap.objs.size+1)::vs,kw⟩) (PySem.W.InitBack (s.heap.objs.size+1) R)
   { s with heap:=(s.heap.push emptyDict).push (instObj C s.heap.objs.size) }) :
  codeAny (model prog w) A (.call (.ref C) ⟨vs,kw⟩) R s:=by
 obtain ⟨hh,g,d,t,os⟩:=s;exact PySem.W.make_core (PySem.W.makes_of X hm) (PySem.W.looks_findIn X hi) (fun self=>PySem.W.bind_fn X self hf) (.inl rfl) h
end
def putF (f:Str) (v:V):List (Str×V)→List (Str×V)
 | []=>[(f,v)]
 | (g,x)::r=>if g=f then (g,v)::r else (g,x)::putF f v r
theorem zaL (f g:Str) (v:V):∀ fs:List (Str×V),(putF f v fs).lookup g=if g=f then some v else fs.lookup g
 | []=>by
   show List.lookup g [(f,v)]=_
   by_cases h:g=f
   ·have hb:(g == f)=true:=beq_iff_eq.mpr h;simp only [List.lookup,hb,if_pos h]
   ·have hb:(g == f)=false:=beq_eq_false_iff_ne.mpr h;simp only [List.lookup,hb,if_neg h]
 | (k,x)::r=>by
  have ih:=zaL f g v r;rw [show putF f v ((k,x)::r)=(if k=f then (k,v)::r else (k,x)::putF f v r) from rfl]
  by_cases hk:k=f
  ·rw [if_pos hk]
   by_cases h:g=k
   ·have hb:(g == k)=true:=beq_iff_eq.mpr h;simp only [List.lookup,hb,if_pos (h.trans hk)]
   ·have hb:(g == k)=false:=beq_eq_false_iff_ne.mpr h;simp only [List.lookup,hb,if_neg (fun e:g=f=>h (e.trans hk.symm))]
  ·rw [if_neg hk]
   by_cases h:g=k
   ·have hb:(g == k)=true:=beq_iff_eq.mpr h;simp only [List.lookup,hb,if_neg (fun e:g=f=>hk (h.symm.trans e))]
   ·have hb:(g == k)=false:=beq_eq_false_iff_ne.mpr h;simp only [List.lookup,hb];exact ih
theorem zeG (f:Str) (v:V):∀ fs:List (Str×V),f∈(putF f v fs).map (·.1)∧∀ g,g∈fs.map (·.1)→g∈(putF f v fs).map (·.1)
 | []=>⟨by simp [putF],fun g h=>by simp at h⟩
 | (k,x)::r=>by
  obtain ⟨i1,i2⟩:=zeG f v r;rw [show putF f v ((k,x)::r)=(if k=f then (k,v)::r else (k,x)::putF f v r) from rfl]
  by_cases hk:k=f
  ·rw [if_pos hk];subst hk;exact ⟨by simp,fun g h=>by simpa using h⟩
  ·rw [if_neg hk];refine ⟨?_,fun g h=>?_⟩
   ·rw [map_cons];exact mem_cons_of_mem _ i1
   ·rw [map_cons] at h ⊢;rcases mem_cons.mp h with e | e
    ·exact mem_cons.mpr (.inl e)
    ·exact mem_cons_of_mem _ (i2 g e)
theorem zeH (f:Str) (v:V):∀ fs:List (Str×V),(putF f v fs).length≤fs.length+1
 | []=>by simp [putF]
 | (k,x)::r=>by
  have ih:=zeH f v r;rw [show putF f v ((k,x)::r)=(if k=f then (k,v)::r else (k,x)::putF f v r) from rfl]
  by_cases hk:k=f
  ·rw [if_pos hk,length_cons,length_cons];omega
  ·rw [if_neg hk,length_cons,length_cons];omega
theorem RelO.some_of {v:V} {o:Option Value} (r:RelO (some v) o):∃ u,o=some u∧RelV v u:=by
 cases o with
 | none=>exact (show False from r).elim
 | some u=>exact ⟨u,rfl,r⟩
theorem RelO.none_of {o:Option Value} (r:RelO none o):o=none:=by
 cases o with
 | none=>rfl
 | some u=>exact (show False from r).elim
theorem zjn {v:V} {u:Value} (r:RelV v u):handedIn u=true:=by
 cases v with
 | non=>cases (show u=Value.none from r);rfl
 | bl b=>cases (show u=Value.bool b from r);rfl
 | int i=>obtain ⟨t,e⟩:=(show ∃ t,u=Value.int i t from r);cases e;rfl
 | str x=>obtain ⟨t,e⟩:=(show ∃ t,u=Value.str x t from r);cases e;rfl
 | byt b=>obtain ⟨t,e⟩:=(show ∃ t,u=Value.bytes b t from r);cases e;rfl
 | flt b=>obtain ⟨t,e⟩:=(show ∃ t,u=Value.float b t from r);cases e;rfl
 | ref a=>cases (show u=Value.ref a from r);rfl
 | ty n=>cases (show u=Value.type n from r);rfl
section
variable {P:Program} {w:World} {H H':Hp} {h h':Heap} {a C dx:Addr} {fs fs':List (Str×V)}
theorem zfP (hok:HOk P w H h) (e:H a=some (.ins C dx fs)):∃ mA,ObjM h a dx C mA∧(∀ f,RelO (fs.lookup f) (mA f))∧PySem.Within mA (fs.map (·.1))∧fs.length≤1000∧H dx=some (.own a):=by
 obtain ⟨d,z,ne,ob,mA,n,r,q⟩:=(show zbV P w H h a (.ins C dx fs) from hok a _ e)
 exact ⟨mA,⟨ob,n,ne⟩,r,q,z,d⟩
end
structure Cls (K:PySem.W.Frag) (C:Addr):Prop where
 pg:plainGet K C Str.empty=true
 hd:hasDictIn K C=true
 po:plainOver K C=true
 sa:findIn K (.ref C) "__setattr__"=some (some (.builtin "object.__setattr__"))
theorem Cls.get {K:PySem.W.Frag} {C:Addr} (c:Cls K C) (f:Str):plainGet K C f=true:=c.pg
def zbJ (K:PySem.W.Frag) (C:Addr) (f:Str):Prop:=findIn K (.ref C) f=some none
theorem zbJ.taker {K:PySem.W.Frag} {C:Addr} {f:Str} (n:zbJ K C f):takerIn K C f=some none:=by
 unfold takerIn;rw [show findIn K (.ref C) f=some none from n];rfl
structure Meth (K:PySem.W.Frag) (C:Addr) (m:Str) (f:Addr):Prop where
 at_:findIn K (.ref C) m=some (some (.ref f))
 fn:isFn K (.ref f)=true
 kp:keepIn K (.ref f)=true
section
variable {X:Cx} {pins:List (Addr×Obj)} {σ:St} {H:Hp} {s:Shared} {a C dx:Addr} {fs:List (Str×V)} {f:Str} {v:V} {A:Around} {E:Value→Shared→Prop}
theorem zir {b:Bool} {Q:Value→Shared→Prop} (I:Inv X pins σ H s) (e:H a=some (.ins C dx fs)) (c:Cls X.K C) (n:zbJ X.K C f) (l:fs.lookup f=some v)
  (h:∀ u s',Inv X pins σ H s'→RelV v u→Q u s'):wpAny (model X.prog X.w) A (getAttr (.ref a) f b) Q E s:=by
 obtain ⟨mA,O,r,_,_,_⟩:=zfP I.hok e;obtain ⟨u,hu,ru⟩:=RelO.some_of (v:=v) (o:=mA f) (by rw [← l];exact r f);exact zlM I.kIn O (c.get f) c.hd n hu (zjn ru) (h u _ (I.tok _) ru)
theorem zfu {m:Str} {g:Addr} {pl:Sem Bool} {Q:Value×List Value→Shared→Prop} (I:Inv X pins σ H s) (e:H a=some (.ins C dx fs)) (c:Cls X.K C) (k:Meth X.K C m g) (l:fs.lookup m=none)
  (h:Q (.ref g,[.ref a]) s):wpAny (model X.prog X.w) A (getMethod (.ref a) m pl) Q E s:=by
 obtain ⟨mA,O,r,_,_,_⟩:=zfP I.hok e;have hn:mA m=none:=RelO.none_of (by rw [← l];exact r m);exact zkC I.kIn O (c.get m) k.at_ k.fn hn h
theorem zis {y:V} {u:Value} {Q:Unit→Shared→Prop} (I:Inv X pins σ H s) (e:H a=some (.ins C dx fs)) (c:Cls X.K C) (n:zbJ X.K C f) (hl:fs.length < 1000) (ry:RelV y u)
  (h:∀ s',Inv X pins σ (upd H a (.ins C dx (putF f y fs))) s'→Q () s'):wpAny (model X.prog X.w) A (setAttr (.ref a) f u) Q E s:=by
 obtain ⟨mA,O,r,wi,_,ho⟩:=zfP I.hok e;have hz:(fs.map (·.1)).length≤sizeLine:=by rw [length_map,sizeLine_eq];omega
 refine zlN I.kIn O c.sa c.po n.taker c.hd wi hz fun h' O' sb=>h _ ?_;have hd:∃ o,h'.get? dx=some o:=let ⟨o,_,_,e',_⟩:=O'.ns;⟨o,e'⟩;refine I.write (x:=a) (e:=dx) (by rw [e];exact True.intro) (.inr ho) (fun b q hb z=>(sb.2 b hb).trans z) hd ?_;refine ⟨by rw [zaR O.ne];exact ho,?_,O.ne,O'.obj,_,O'.ns,fun g=>?_,fun g hg=>?_⟩
 ·have:=zeH f y fs;omega
 ·show RelO ((putF f y fs).lookup g) (if g=f then some u else mA g);rw [zaL]
  by_cases q:g=f
  ·rw [if_pos q,if_pos q];exact ry
  ·rw [if_neg q,if_neg q];exact r g
 ·by_cases q:g=f
  ·rw [q];exact (zeG f y fs).1
  ·refine (zeG f y fs).2 g (wi g fun z=>hg ?_);show (if g=f then some u else mA g)=none;rw [if_neg q];exact z
theorem Inv.made (I:Inv X pins σ H s):Inv X pins σ (upd (upd H s.heap.objs.size (.own (s.heap.objs.size+1))) (s.heap.objs.size+1) (.ins C s.heap.objs.size []))
  { s with heap:=(s.heap.push emptyDict).push (instObj C s.heap.objs.size) }:=by
 have e1:(s.heap.push emptyDict).get? s.heap.objs.size=some emptyDict:=Heap.get?_push_size s.heap rfl;have e2:((s.heap.push emptyDict).push (instObj C s.heap.objs.size)).get? (s.heap.objs.size+1)=some (instObj C s.heap.objs.size):=by
  have:=Heap.get?_push_size (s.heap.push emptyDict) (o:=instObj C s.heap.objs.size) rfl
  rwa [Heap.size_push] at this
 have e3:(s.heap.push emptyDict).Ns s.heap.objs.size (fun _=>none):=⟨emptyDict,#[],_,e1,rfl,(fun e he=>absurd he (by simp)),fun _=>rfl⟩
 have I1:=I.laid (a:=s.heap.objs.size) (o:=.own (s.heap.objs.size+1)) (h':=s.heap.push emptyDict) (t':=s.toks) (fun b u q=>Heap.get?_push_of_some _ q) (Nat.le_refl _) ⟨_,e1⟩;refine I1.laid (a:=s.heap.objs.size+1) (o:=.ins C s.heap.objs.size []) (t':=s.toks) (fun b u q=>Heap.get?_push_of_some _ q) (Nat.le_of_eq (Heap.size_push _ _)) ?_;have ne:s.heap.objs.size≠s.heap.objs.size+1:=Nat.ne_of_lt (lt_succ_self _);refine ⟨by rw [zaR ne,zaz],zero_le _,ne,e2,fun _=>none,(Heap.Ns1.of_empty e3).at fun o q=>Heap.get?_push_of_some _ q,fun _=>True.intro,fun y hy=>absurd rfl hy⟩
theorem zlO {prog:Program} {w:World} {env:Env} {e:Expr} {f:Str} {pos:Pos} {s:Shared} {Q:Value→Shared→Prop} (hb:attributeBase e f env (eval e env)=eval e env)
  (h:wpAny (model prog w) A (eval e env) (fun o s₁=>wpAny (model prog w) A (getAttr o f true) Q E s₁) E s):wpAny (model prog w) A (eval (.Attribute e f pos) env) Q E s :=
 Attribute_any_ h (by rw [arm_eval_Attribute,hb])
end
def tFld (K:PySem.W.Frag) (ta:TE) (f:Str):TE:=fun σ H Q=>ta σ H fun x H1=>∃ a C dx fs v,x=.ref a∧H1 a=some (.ins C dx fs)∧Cls K C∧zbJ K C f∧fs.lookup f=some v∧Q v H1
def sFld (K:PySem.W.Frag) (ta tv:TE) (f:Str):TS:=fun D σ H=>tv σ H fun y H1=>ta σ H1 fun x H2=>∃ a C dx fs,x=.ref a∧H2 a=some (.ins C dx fs)∧Cls K C∧zbJ K C f∧fs.length < 1000 ∧
 D.nx σ (upd H2 a (.ins C dx (putF f y fs)))
section
variable {X:Cx} {o e value:Expr} {f:Str} {pos pos' tpos:Pos} {ta tv:TE}
theorem zmR (he:PE X e ta) (hb:attributeBase e f X.env (eval e X.env)=eval e X.env):PE X (.Attribute e f pos) (tFld X.K ta f):=by
 intro pins s σ H Q I h;refine zlO hb (thn (he pins s σ H _ I h) fun u s1 ⟨x,H1,I1,rx,a,C,dx,fs,v,ex,ea,c,n,l,q⟩=>?_);subst ex;obtain rfl:u=Value.ref a:=rx;exact zir I1 ea c n l fun u' s2 I2 ru=>⟨v,H1,I2,ru,q⟩
theorem zmS (ha:PE X o ta) (hv:PE X value tv) (hs:swapsWith value (some (.Attribute o f pos')) pos.line X.env=pure false):PS X (.Assign [.Attribute o f pos'] value pos) (sFld X.K ta tv f):=by
 intro pins s σ H D I h;refine plainObj_wpAny_Assign_Attribute (thn (hv pins s σ H _ I h) fun u s1 ⟨y,H1,I1,ry,q⟩=>thn (ha pins s1 σ H1 _ I1 q) fun ov s2 ⟨x,H2,I2,rx,a,C,dx,fs,ex,ea,c,n,l,q2⟩=>?_) hs;subst ex;obtain rfl:ov=Value.ref a:=rx;exact zis I2 ea c n l ry fun s3 I3=>⟨σ,_,I3,q2⟩
end
section
variable {X:Cx} {pins:List (Addr×Obj)} {σ:St} {H:Hp} {s:Shared} {A:Around} {E:Value→Shared→Prop} {Q:Value→Shared→Prop} {c:Value} {b:Bool}
inductive TyOf (K:PySem.W.Frag) (H:Hp):V→Value→Prop where
 | non:TyOf K H .non (.type "NoneType")
 | bl (x:Bool):TyOf K H (.bl x) (.type "bool")
 | int (i:Int):TyOf K H (.int i) (.type "int")
 | str (x:Str):TyOf K H (.str x) (.type "str")
 | flt (x:UInt64):TyOf K H (.flt x) (.type "float")
 | lst {a:Addr} {xs:List V} (e:H a=some (.lst xs)):TyOf K H (.ref a) (.type "list")
 | frz {a:Addr} {o:Obj} {xs:List V} (e:H a=some (.frz o (.lst xs))):TyOf K H (.ref a) (.type "list")
 | tup {a:Addr} {xs:List V} (e:H a=some (.tup xs)):TyOf K H (.ref a) (.type "tuple")
 | dK {a:Addr} {kvs:List (Key×V)} (e:H a=some (.dK kvs)):TyOf K H (.ref a) (.type "dict")
 | dT {a:Addr} {kvs:List (List Key×V)} (e:H a=some (.dT kvs)):TyOf K H (.ref a) (.type "dict")
 | ins {a C dx:Addr} {fs:List (Str×V)} (e:H a=some (.ins C dx fs)) (cl:Cls K C) (ha:findIn K (.ref C) "__class__"=some (some (.builtin "object.__class__")))
    (hn:PySem.W.specialIn K (.builtin "object.__class__") "__get__"=some (some (.builtin "getset_descriptor.__get__"))) (htk:PySem.W.takesIn K (.builtin "object.__class__")=some true)
    (hm:mroIn K C (.type "object")=some true):TyOf K H (.ref a) (.ref C)
theorem zjo {x:V} {u t:Value} (I:Inv X pins σ H s) (rx:RelV x u) (ty:TyOf X.K H x t) (e:kitOne X.K t c=some b) (h:∀ tk,Q (.bool b) { s with toks:=tk }) :
  wpAny (model X.prog X.w) A (call (.builtin "isinstance") [u,c]) Q E s:=by
 cases ty with
 | non=>cases (show u=Value.none from rx);exact kia_one PySem.W.kitx_none I.kIn True.intro e (fun z=>nomatch z) h
 | bl y=>cases (show u=Value.bool y from rx);exact kia_one PySem.W.kitx_bool I.kIn True.intro e (fun z=>nomatch z) h
 | int i=>obtain ⟨t,q⟩:=(show ∃ t,u=Value.int i t from rx);cases q;exact kia_one PySem.W.kitx_int I.kIn True.intro e (fun z=>nomatch z) h
 | str y=>obtain ⟨t,q⟩:=(show ∃ t,u=Value.str y t from rx);cases q;exact kia_one PySem.W.kitx_str I.kIn True.intro e (fun z=>nomatch z) h
 | flt y=>obtain ⟨t,q⟩:=(show ∃ t,u=Value.float y t from rx);cases q;exact kia_one PySem.W.kitx_float I.kIn True.intro e (fun z=>nomatch z) h
 | @lst a xs ea =>
   cases (show u=Value.ref a from rx)
   obtain ⟨_,_,n,_,h1⟩:=(show zbV X.prog X.w H s.heap a (.lst xs) from I.hok a _ ea)
   exact kia_one kitx_list I.kIn ⟨_,h1,rfl⟩ e (fun z=>nomatch z) h
 | @frz a ob xs ea =>
   cases (show u=Value.ref a from rx)
   obtain ⟨_,_,_,n,_,h1⟩:=(show zbV X.prog X.w H s.heap a (.frz ob (.lst xs)) from I.hok a _ ea)
   exact kia_one kitx_list I.kIn ⟨_,h1,rfl⟩ e (fun z=>nomatch z) h
 | @tup a xs ea =>
   cases (show u=Value.ref a from rx)
   obtain ⟨_,_,_,p⟩:=(show zbV X.prog X.w H s.heap a (.tup xs) from I.hok a _ ea)
   obtain ⟨o,h1,h2,_⟩:=p;exact kia_one PySem.W.kitx_tuple I.kIn ⟨o,h1,h2⟩ e (fun z=>nomatch z) h
 | @dK a kvs ea =>
   cases (show u=Value.ref a from rx)
   obtain ⟨_,_,vs,_,p⟩:=(show zbV X.prog X.w H s.heap a (.dK kvs) from I.hok a _ ea)
   obtain ⟨o,es,ep,h1,h2,_⟩:=p;exact kia_one kitx_dict I.kIn ⟨o,h1,h2.1⟩ e (fun z=>nomatch z) h
 | @dT a kvs ea =>
   cases (show u=Value.ref a from rx)
   obtain ⟨_,_,xs,_,o,es,ep,h1,h2,_⟩:=(show zbV X.prog X.w H s.heap a (.dT kvs) from I.hok a _ ea)
   exact kia_one kitx_dict I.kIn ⟨o,h1,h2.1⟩ e (fun z=>nomatch z) h
 | @ins a C dx fs ea cl ha hn htk hm =>
   cases (show u=Value.ref a from rx)
   obtain ⟨mA,O,_⟩:=zfP I.hok ea;obtain ⟨od,J,_⟩:=O.look;exact kia_one (PySem.W.kitx_own (cl.get _) cl.hd ha hn htk hm) I.kIn J e (fun z=>nomatch z) h
end
end L2
namespace L2
open PySem PySem.Spec PyProof.Rows
structure Room (k:Nat) (A:Around):Prop where
 hd:A.handled=none
 dp:A.depth+3 * k+5 < recursionLimit
 un:A.units+16 * k+200 < cLine
theorem Room.mono {j k:Nat} {A:Around} (r:Room k A) (h:j≤k):Room j A:=⟨r.hd,by have:=r.dp;omega,by have:=r.un;omega⟩
theorem Room.deeper {k:Nat} {A:Around} (r:Room (k+1) A) (env:Env):Room k (A.deeper env) :=
 ⟨r.hd,by have:=r.dp;show A.depth+1+3 * k+5 < _;omega,by have:=r.un;show A.units+3+16 * k+200 < _;omega⟩
theorem zit {A:Around} {C:Addr} {us:List Value} {kw:List (Str×Value)}:(A.under (.builtin "type.__call__" ⟨.ref C::us,kw⟩)).depth=A.depth+1:=by
 first | rfl | simp [Around.under,Code.weight,Code.isCreation,Code.isGuard,Code.isCaller,Code.frames,Code.isFrame,guardIds]
theorem ziu {A:Around} {C:Addr} {us:List Value} {kw:List (Str×Value)}:(A.under (.builtin "type.__call__" ⟨.ref C::us,kw⟩)).units=A.units+1:=by
 first | rfl | simp [Around.under,Code.cUnits,Code.frames,Code.isFrame]
theorem Room.make {k:Nat} {A:Around} (r:Room (k+1) A) (C:Addr) (us:List Value) (kw:List (Str×Value)):Room k (A.under (.builtin "type.__call__" ⟨.ref C::us,kw⟩)) :=
 ⟨r.hd,by have:=r.dp;rw [zit];omega,by have:=r.un;rw [ziu];omega⟩
theorem Room.depth {k:Nat} {A:Around} (r:Room k A):A.depth < recursionLimit:=by have:=r.dp;omega
theorem Room.units {k:Nat} {A:Around} (r:Room k A):A.units+64 < cLine:=by have:=r.un;omega
theorem Room.units0 {k:Nat} {A:Around} (r:Room k A):A.units < cLine:=by have:=r.un;omega
def tNil:TA:=fun _ H Q=>Q [] H
def zgk (ta:TE) (tr:TA):TA:=fun σ H Q=>ta σ H fun x H1=>tr σ H1 fun xs H2=>Q (x::xs) H2
section
variable {X:Cx} {e:Expr} {es:List Expr} {te:TE} {t:TA} {pos:Pos}
theorem pa_nil:PA X [] tNil:=fun _ _ _ _ H Q I h=>Calls.spliced_nil ⟨[],H,I,.nil,h⟩
theorem zaa (ha:PE X e te) (hr:PA X es t) (hs:starEach (e::es) X.env=(false,eval e X.env)::starEach es X.env:=by rfl):PA X (e::es) (zgk te t):=by
 intro pos pins s σ H Q I h;rw [hs];show wpAny _ _ (spliced ((false,eval e X.env)::backTo pos (starEach es X.env))) _ _ s;refine Calls.spliced_cons (thn (ha pins s σ H _ I h) fun u s1 ⟨x,H1,I1,r1,q1⟩=>?_);exact thn (hr pos pins s1 σ H1 _ I1 q1) fun us s2 ⟨xs,H2,I2,r2,q2⟩=>⟨x::xs,H2,I2,.cons r1 r2,q2⟩
def tLst (t:TA):TE:=fun σ H Q=>t σ H fun xs H1=>xs.length≤sizeLine∧∀ p,H1 p=none→Q (.ref p) (upd H1 p (.lst xs))
theorem zaN (h:PA X es t):PE X (.List es pos) (tLst t):=by
 intro pins s σ H Q I hq;refine wpAny_List_spliced (thn (h pos pins s σ H _ I hq) fun us s1 ⟨xs,H1,I1,r,z,q⟩=>⟨by rw [← r.length];exact z,?_⟩);have hf:H1 s1.heap.objs.size=none:=I1.hok.fresh (Nat.le_refl _);refine ⟨.ref s1.heap.objs.size,upd H1 s1.heap.objs.size (.lst xs),I1.laid (t':=s1.toks) (fun b u e=>Heap.get?_push_of_some _ e) (Nat.le_refl _) ?_,rfl,q _ hf⟩;exact ⟨z,us,0,r,Heap.get?_push_size _ rfl⟩
end
abbrev Sp:=List V→Hp→VK→XK→Prop
abbrev CXT:=List Env→Hp→Shared→XK→Value→Shared→Prop
structure Env0 (P:Program) (w:World) (K:PySem.W.Frag) (mg:Str→Option Value) (base:Heap) (A:Around) (outer:List Env) (s:Shared) (H:Hp):Prop where
 frames:A.frames=some outer
 mod:Mod K mg base
 bs:∀ b o,base.get? b=some o→s.heap.get? b=some o∧H b=none
 bsz:base.objs.size≤s.heap.objs.size
 funs:s.heap.FunFrames base outer
 frf:∀ b∈frs outer,H b=none
 hok:HOk P w H s.heap
 bare:AllBare s.gens
def CE (outer:List Env) (P:Program) (w:World) (H:Hp) (s:Shared) (Q:VK) (u:Value) (s':Shared):Prop :=
 ∃ v H',s'.os=s.os∧AllBare s'.gens∧Un (frs outer) [] H H' s.heap s'.heap∧HOk P w H' s'.heap∧RelV v u∧Q v H'
def CR (CX:CXT) (outer:List Env) (P:Program) (w:World) (H:Hp) (s:Shared) (Q:VK) (E:XK) (r:Result) (s':Shared):Prop :=
 match r with
 | .ok (.ret u)=>CE outer P w H s Q u s'
 | .ok _=>False
 | .error e=>CX outer H s E e s'
structure FnOk (P:Program) (w:World) (K:PySem.W.Frag) (mg:Str→Option Value) (base:Heap) (CX:CXT) (k:Nat) (f:Addr) (fd:FuncData) (ps:List Str) (sp:Sp):Prop where
 len:∀ vs H Q E,sp vs H Q E→vs.length=ps.length
 run:∀ (A:Around) (outer:List Env) (s:Shared) (H:Hp) (args:Args) (us:List Value) (vs:List V) (Q:VK) (E:XK),Room k A→Env0 P w K mg base A outer s H→BindsTo s fd args (ps.zip us)→Vals vs us→sp vs H Q E →
  codeAny (model P w) A (.call (.ref f) args) (CR CX outer P w H s Q E) s
theorem Env0.make {P:Program} {w:World} {K:PySem.W.Frag} {mg:Str→Option Value} {base:Heap} {A:Around} {outer:List Env} {s:Shared} {H:Hp} (e:Env0 P w K mg base A outer s H) (C:Addr) (us:List Value) (kw:List (Str×Value)) :
  Env0 P w K mg base (A.under (.builtin "type.__call__" ⟨.ref C::us,kw⟩)) outer s H:=⟨by first | exact e.frames | (simpa [Around.under,Code.envs,Code.isFrame,pushEnvs] using e.frames),e.mod,e.bs,e.bsz,e.funs,e.frf,e.hok,e.bare⟩
section
variable {X:Cx} {pins:List (Addr×Obj)} {σ:St} {H:Hp} {s s':Shared}
theorem Inv.env0 (I:Inv X pins σ H s):Env0 X.prog X.w X.K X.mg X.base X.A X.stack s H :=
 ⟨I.ok.frames,I.ok.mod,I.bs,Nat.le_trans I.ok.bsz I.sz,I.stack,I.stkFree,I.hok,I.bare⟩
theorem Inv.after {Q:VK} {u:Value} (I:Inv X pins σ H s) (h:CE X.stack X.prog X.w H s Q u s'):EP X pins σ Q u s':=by
 obtain ⟨v,H',os,bare,un,hok,r,q⟩:=h;obtain ⟨hh,g,d,t,os'⟩:=s';obtain rfl:os'=s.os:=os;exact ⟨v,H',I.call (h':=hh) (g':=g) (d':=d) (t':=t) (ch:=[]) un hok bare (fun b z=>absurd z (by simp)),r,q⟩
end
def zlP (sp:Sp) (dvs:List V) (E:XK) (t:TA):TE:=fun σ H Q=>t σ H fun vs H1=>sp (vs++dvs) H1 Q E
def zlQ (C:Addr) (m:Str) (sp:Sp) (dvs:List V) (E:XK) (ta:TE) (t:TA):TE:=fun σ H Q=>ta σ H fun x H1=>∃ a dx fs,x=.ref a∧H1 a=some (.ins C dx fs)∧fs.lookup m=none ∧
 t σ H1 fun vs H2=>sp (x::(vs++dvs)) H2 Q E
def zlR (C:Addr) (sp:Sp) (dvs:List V) (E:XK) (t:TA):TE:=fun σ H Q=>t σ H fun vs H1=>∀ x dx,H1 x=none→H1 dx=none→dx≠x →
 sp (.ref x::(vs++dvs)) (upd (upd H1 dx (.own x)) x (.ins C dx [])) (fun v H2=>v=.non∧Q (.ref x) H2) E
def Binds (K:PySem.W.Frag) (fd:FuncData) (ps:List Str) (ds:List Value):Prop :=
 ∀ (s:Shared) (us:List Value),K.In s.heap→(us++ds).length=ps.length→BindsTo s fd ⟨us,[]⟩ (ps.zip (us++ds))
theorem Binds.all {K:PySem.W.Frag} {fd:FuncData} {ps:List Str} (h:∀ us:List Value,us.length=ps.length→bindArgs fd ⟨us,[]⟩=pure (ps.zip us)):Binds K fd ps []:=fun s us _ hl=>by
 rw [append_nil] at hl ⊢;exact .of_eq (h us hl)
def zee (CX:CXT) (X:Cx) (E:XK):Prop:=∀ (pins:List (Addr×Obj)) (σ:St) (H:Hp) (s:Shared) (e:Value) (s':Shared),Inv X pins σ H s→CX X.stack H s E e s'→X.xe e s'
section
variable {X:Cx} {CX:CXT} {k:Nat} {f C:Addr} {fd:FuncData} {ps:List Str} {sp:Sp} {dvs:List V} {ds:List Value} {E:XK} {x m:Str} {p pos apos:Pos} {e o:Expr} {es:List Expr} {ta:TE} {t:TA}
theorem zjp {pins:List (Addr×Obj)} {σ:St} {H:Hp} {s:Shared} {Q:VK} {us:List Value} {vs:List V} (F:FnOk X.prog X.w X.K X.mg X.base CX k f fd ps sp) (hr:Room k X.A) (hb:Binds X.K fd ps ds) (hd:Vals dvs ds) (hx:zee CX X E)
  (I:Inv X pins σ H s) (r:Vals vs us) (h:sp (vs++dvs) H Q E):wpAny (model X.prog X.w) X.A (call (.ref f) us) (EP X pins σ Q) X.xe s:=by
 have r2:Vals (vs++dvs) (us++ds):=r.append hd;have hl:(us++ds).length=ps.length:=by rw [← r2.length];exact F.len _ _ _ _ h
 refine wpAny_call (codeAny_mono (F.run X.A X.stack s H ⟨us,[]⟩ (us++ds) (vs++dvs) Q E hr I.env0 (hb s us I.kIn hl) r2 h) fun r s' hq=>?_)
 cases r with
 | error e=>exact hx pins σ H s e s' I hq
 | ok fl =>
   cases fl with
   | ret u=>exact I.after hq
   | next=>exact False.elim hq
   | brk=>exact False.elim hq
   | cont=>exact False.elim hq
theorem zal (F:FnOk X.prog X.w X.K X.mg X.base CX k f fd ps sp) (hr:Room k X.A) (hg:Gl X x) (hm:X.mg x=some (.ref f)) (hk:keepIn X.K (.ref f)=true) (hb:Binds X.K fd ps ds) (hd:Vals dvs ds) (hx:zee CX X E)
  (ha:PA X (e::es) t) (hdb:(x == ("__debug__" : Str))=false:=by decide) (he:starEach (e::es) X.env=(false,eval e X.env)::starEach es X.env:=by rfl) (hpl:(backTo pos (starEach es X.env)).any (·.1)=false:=by rfl) :
  PE X (.Call (.Name x p) (e::es) [] pos) (zlP sp dvs E t):=by
 intro pins s σ H Q I h;refine wpAny_Call_Name_kw (zfO I hg hm ?_ hdb);refine callWith_K (h₀:=X.base) I.ok.mod.kin hk (thn (ha pos pins s σ H _ I h) fun us s1 ⟨vs,H1,I1,r,q⟩=>⟨I1.kIn,?_⟩) he hpl;exact zjp F hr hb hd hx I1 r q
theorem zbh {pl:Sem Bool} (he:PE X o ta) (c:Cls X.K C) (hm:Meth X.K C m f) (F:FnOk X.prog X.w X.K X.mg X.base CX k f fd ps sp) (hr:Room k X.A) (hb:Binds X.K fd ps ds) (hd:Vals dvs ds) (hx:zee CX X E) (ha:PA X (e::es) t)
  (hst:starEach (e::es) X.env=(false,eval e X.env)::starEach es X.env:=by rfl) (hpl:(backTo pos (starEach es X.env)).any (·.1)=false:=by rfl)
  (ht:eval (.Call (.Attribute o m apos) (e::es) [] pos) X.env=(do
   let ov ← eval o X.env
   standAt apos.atName
   let (f,first) ← holding [ov] (getMethod ov m pl)
   callWith pos f first (backTo pos (starEach (e::es) X.env)) (backToKw pos (keywordEach [] X.env))):=by rfl) :
  PE X (.Call (.Attribute o m apos) (e::es) [] pos) (zlQ C m sp dvs E ta t):=by
 intro pins s σ H Q I h;refine methodCall_KW (pl:=pl) (thn (he pins s σ H _ I h) fun u s1 ⟨x,H1,I1,rx,a,dx,fs,ex,ea,l,q⟩=>?_) ht;subst ex;obtain rfl:u=Value.ref a:=rx;refine zfu I1 ea c hm l ?_;refine callWith_K (first:=[.ref a]) (h₀:=X.base) I.ok.mod.kin hm.kp (thn (ha pos pins s1 σ H1 _ I1 q) fun us s2 ⟨vs,H2,I2,r,q2⟩=>⟨I2.kIn,?_⟩) hst hpl;exact zjp (us:=.ref a::us) (vs:=.ref a::vs) F hr hb hd hx I2 (.cons rfl r) q2
theorem zbv {pl:Sem Bool} (he:PE X o ta) (c:Cls X.K C) (hm:Meth X.K C m f) (F:FnOk X.prog X.w X.K X.mg X.base CX k f fd ps sp) (hr:Room k X.A) (hb:Binds X.K fd ps ds) (hd:Vals dvs ds) (hx:zee CX X E)
  (ht:eval (.Call (.Attribute o m apos) [] [] pos) X.env=(do
   let ov ← eval o X.env
   standAt apos.atName
   let (f,first) ← holding [ov] (getMethod ov m pl)
   callWith pos f first (backTo pos (starEach [] X.env)) (backToKw pos (keywordEach [] X.env))):=by rfl) :
  PE X (.Call (.Attribute o m apos) [] [] pos) (zlQ C m sp dvs E ta tNil):=by
 intro pins s σ H Q I h;refine methodCall_KW (pl:=pl) (thn (he pins s σ H _ I h) fun u s1 ⟨x,H1,I1,rx,a,dx,fs,ex,ea,l,q⟩=>?_) ht;subst ex;obtain rfl:u=Value.ref a:=rx;refine zfu I1 ea c hm l ?_;exact callWith_K0 (first:=[.ref a]) I1.kIn hm.kp (zjp (us:=[.ref a]) (vs:=[.ref a]) F hr hb hd hx I1 (.cons rfl .nil) q)
structure Mk (K:PySem.W.Frag) (C f:Addr):Prop where
 makes:makesIn K C=true
 init:findIn K (.ref C) "__init__"=some (some (.ref f))
 fn:isFn K (.ref f)=true
 kp:keepIn K (.ref C)=true
theorem zhS {pins:List (Addr×Obj)} {σ:St} {H:Hp} {s:Shared} {Q:VK} {us:List Value} {vs:List V} (M:Mk X.K C f) (F:FnOk X.prog X.w X.K X.mg X.base CX k f fd ps sp) (hr:Room (k+1) X.A) (hb:Binds X.K fd ps ds) (hd:Vals dvs ds)
  (hx:zee CX X E) (I:Inv X pins σ H s) (r:Vals vs us)
  (h:∀ x dx,H x=none→H dx=none→dx≠x→sp (.ref x::(vs++dvs)) (upd (upd H dx (.own x)) x (.ins C dx [])) (fun v H2=>v=.non∧Q (.ref x) H2) E) :
  wpAny (model X.prog X.w) X.A (call (.ref C) us) (EP X pins σ Q) X.xe s:=by
 have hq:=h (s.heap.objs.size+1) s.heap.objs.size (I.hok.fresh (le_succ _)) (I.hok.fresh (Nat.le_refl _)) (Nat.ne_of_lt (lt_succ_self _));have I2:=Inv.made (C:=C) I;have r2:Vals (V.ref (s.heap.objs.size+1)::(vs++dvs)) (Value.ref (s.heap.objs.size+1)::(us++ds)):=.cons rfl (r.append hd);have hl:(Value.ref (s.heap.objs.size+1)::us++ds).length=ps.length:=by
  have e:=r2.length;rw [F.len _ _ _ _ hq] at e;exact e.symm
 refine wpAny_call (zkD (f:=f) I.kIn M.makes M.init (beq_iff_eq.mp M.fn) (codeAny_mono (F.run _ X.stack _ _ ⟨Value.ref (s.heap.objs.size+1)::us,[]⟩ (Value.ref (s.heap.objs.size+1)::(us++ds)) _ _ E (hr.make C us [])
  (I2.env0.make C us []) (hb _ (Value.ref (s.heap.objs.size+1)::us) I2.kIn hl) r2 hq) fun r s' hq'=>?_))
 cases r with
 | error e=>exact hx pins σ _ _ e s' I2 hq'
 | ok fl =>
   cases fl with
   | ret u =>
     obtain ⟨v,H',I3,rv,ev,q3⟩:=I2.after hq';subst ev;exact ⟨rv,⟨V.ref (s.heap.objs.size+1),H',I3,rfl,q3⟩⟩
   | next=>exact False.elim hq'
   | brk=>exact False.elim hq'
   | cont=>exact False.elim hq'
theorem zlS (M:Mk X.K C f) (F:FnOk X.prog X.w X.K X.mg X.base CX k f fd ps sp) (hr:Room (k+1) X.A) (hg:Gl X x) (hm:X.mg x=some (.ref C)) (hb:Binds X.K fd ps ds) (hd:Vals dvs ds) (hx:zee CX X E)
  (ha:PA X (e::es) t) (hdb:(x == ("__debug__" : Str))=false:=by decide) (he:starEach (e::es) X.env=(false,eval e X.env)::starEach es X.env:=by rfl) (hpl:(backTo pos (starEach es X.env)).any (·.1)=false:=by rfl) :
  PE X (.Call (.Name x p) (e::es) [] pos) (zlR C sp dvs E t):=by
 intro pins s σ H Q I h;refine wpAny_Call_Name_kw (zfO I hg hm ?_ hdb);refine callWith_K (h₀:=X.base) I.ok.mod.kin M.kp (thn (ha pos pins s σ H _ I h) fun us s1 ⟨vs,H1,I1,r,q⟩=>⟨I1.kIn,?_⟩) he hpl;exact zhS M F hr hb hd hx I1 r q
theorem zkE (M:Mk X.K C f) (F:FnOk X.prog X.w X.K X.mg X.base CX k f fd ps sp) (hr:Room (k+1) X.A) (hg:Gl X x) (hm:X.mg x=some (.ref C)) (hb:Binds X.K fd ps ds) (hd:Vals dvs ds) (hx:zee CX X E)
  (hdb:(x == ("__debug__" : Str))=false:=by decide):PE X (.Call (.Name x p) [] [] pos) (zlR C sp dvs E tNil):=by
 intro pins s σ H Q I h;refine wpAny_Call_Name_kw (zfO I hg hm ?_ hdb);exact callWith_K0 I.kIn M.kp (zhS (us:=[]) M F hr hb hd hx I .nil h)
end
def PK (X:Cx) (kws:List Keyword) (t:TA):Prop :=
 ∀ (pos:Pos) (pins:List (Addr×Obj)) (s:Shared) (σ:St) (H:Hp) (Q:List V→Hp→Prop),Inv X pins σ H s→t σ H Q→wpAny (model X.prog X.w) X.A (evalAll ((backToKw pos (keywordEach kws X.env)).map (·.2))) (AP X pins σ Q) X.xe s
section
variable {X:Cx} {CX:CXT} {k:Nat} {f C:Addr} {fd:FuncData} {ps ks:List Str} {sp:Sp} {E:XK} {x m:Str} {p pos apos kpos:Pos} {e o:Expr} {es:List Expr} {kws:List Keyword} {te ta:TE} {t tk:TA} {nm:Option Str}
theorem pk_nil:PK X [] tNil:=fun _ _ _ _ H Q I h=>wpAny_evalAll_nil ⟨[],H,I,.nil,h⟩
theorem zlT (ha:PE X e te) (hr:PK X kws t):PK X (⟨nm,e,kpos⟩::kws) (zgk te t):=by
 intro pos pins s σ H Q I h;show wpAny _ _ (evalAll ((do let v ← eval e X.env;standAt pos;pure v)::(backToKw pos (keywordEach kws X.env)).map (·.2))) _ _ s;refine wpAny_evalAll_cons (wpAny_bind (thn (ha pins s σ H _ I h) fun u s1 ⟨x,H1,I1,r1,q1⟩=>wpAny_bind (wpAny_standAt (wpAny_pure ?_))));exact thn (hr pos pins s1 σ H1 _ I1 q1) fun us s2 ⟨xs,H2,I2,r2,q2⟩=>⟨x::xs,H2,I2,.cons r1 r2,q2⟩
variable {g:List Value→List Value→List Value} {gV:List V→List V→List V}
end
structure zao (N P:List Str) (sc:Scope):Prop where
 kind:sc.kind=.function
 co:sc.isCoroutine=false
 gen:sc.isGenerator=false
 nd:N.Nodup
 pre:N.take P.length=P
 par:∀ x∈P,sc.names.lookup x=some .local∨sc.names.lookup x=some .cell
 nofree:∀ y∈sc.names,y.2≠.free
theorem zgl {kindOf:Str→Option NameKind} {x:Str}:∀ {binds:List (Str×Value)} {m:Str→Option Value},(∀ v,(x,v)∉binds)→bindL kindOf binds m x=m x
 | [],_,_=>rfl
 | (n,v)::r,m,h=>by
  unfold bindL;rw [zgl fun w hw=>h w (mem_cons_of_mem _ hw)];split
  ·have:x≠n:=by rintro rfl;exact h v mem_cons_self
   simp [this]
  ·rfl
theorem zgm {kindOf:Str→Option NameKind} {x:Str}:∀ {binds:List (Str×Value)} {m:Str→Option Value},(∀ v,(x,v)∉binds)→bindC kindOf binds m x=m x
 | [],_,_=>rfl
 | (n,v)::r,m,h=>by
  unfold bindC;rw [zgm fun w hw=>h w (mem_cons_of_mem _ hw)];split
  ·rfl
  ·have:x≠n:=by rintro rfl;exact h v mem_cons_self
   simp [this]
theorem zgn {kindOf:Str→Option NameKind} {x:Str} {v:Value}:∀ {P:List Str} {vs:List Value} {i:Nat} {m:Str→Option Value},P.Nodup→P[i]? = some x→vs[i]? = some v→kindOf x=some .local →
  bindL kindOf (P.zip vs) m x=some v
 | [],_,_,_,_,h,_,_=>by simp at h
 | _::_,[],_,_,_,_,h,_=>by simp at h
 | p::P,w::vs,0,m,nd,h1,h2,hk=>by
   simp at h1 h2;subst h1;subst h2;show bindL kindOf ((p,w)::P.zip vs) m p=_;unfold bindL;rw [zgl fun v hv=>(nodup_cons.mp nd).1 (of_mem_zip hv).1,if_pos hk];simp
 | p::P,w::vs,i+1,m,nd,h1,h2,hk=>by
   show bindL kindOf ((p,w)::P.zip vs) m x=_;unfold bindL;exact zgn (i:=i) (nodup_cons.mp nd).2 (by simpa using h1) (by simpa using h2) hk
theorem zgo {kindOf:Str→Option NameKind} {x:Str} {v:Value}:∀ {P:List Str} {vs:List Value} {i:Nat} {m:Str→Option Value},P.Nodup→P[i]? = some x→vs[i]? = some v→kindOf x≠some .local →
  bindC kindOf (P.zip vs) m x=some v
 | [],_,_,_,_,h,_,_=>by simp at h
 | _::_,[],_,_,_,_,h,_=>by simp at h
 | p::P,w::vs,0,m,nd,h1,h2,hk=>by
   simp at h1 h2;subst h1;subst h2;show bindC kindOf ((p,w)::P.zip vs) m p=_;unfold bindC;rw [zgm fun v hv=>(nodup_cons.mp nd).1 (of_mem_zip hv).1,if_neg hk];simp
 | p::P,w::vs,i+1,m,nd,h1,h2,hk=>by
   show bindC kindOf ((p,w)::P.zip vs) m x=_;unfold bindC;exact zgo (i:=i) (nodup_cons.mp nd).2 (by simpa using h1) (by simpa using h2) hk
def start (N:List Str) (vs:List V):St:=vs.map some++List.replicate (N.length-vs.length) none
def cxOf (CX:CXT) (P:Program) (w:World) (K:PySem.W.Frag) (mg:Str→Option Value) (base:Heap) (N:List Str) (qual:Str) (scope:Scope) (f:Addr) (cd:Value) (A:Around) (outer:List Env) (s:Shared) (H:Hp) (E:XK):Cx where
 prog:=P
 w:=w
 K:=K
 mg:=mg
 base:=base
 A:=A.deeper (envOfC qual scope s.heap.objs.size f cd)
 N:=N
 s₀:=s
 H₀:=H
 env:=envOfC qual scope s.heap.objs.size f cd
 outer:=outer
 stack:=envOfC qual scope s.heap.objs.size f cd::outer
 ex:=[]
 calm:=true
 fn:=fun _=>true
 pn:=[]
 xe:=fun e s'=>wpAny (model P w) (A.deeper (envOfC qual scope s.heap.objs.size f cd)) (leaving (envOfC qual scope s.heap.objs.size f cd) e) (fun _ s''=>CX outer H s E e s'') (fun e' s''=>CX outer H s E e' s'') s'
theorem zhT {sc:Scope} {n:Nat} {x:Str} (h:sc.names.lookup x=some .cell):∃ c,(cellsFrom n sc.names []).lookup x=some c:=by
 have q:=cellsFrom_some sc.names n [] (.inl h);exact Option.isSome_iff_exists.mp q
theorem zjq {CX:CXT} {P:Program} {w:World} {K:PySem.W.Frag} {mg:Str→Option Value} {base:Heap} {N ps:List Str} {qual:Str} {scope:Scope} {f:Addr} {cd:Value} {A:Around} {outer:List Env} {s s1:Shared} {H:Hp} {E:XK} {us:List Value} {vs:List V}
  (S:zao N ps scope) (hd:A.handled=none) (e0:Env0 P w K mg base A outer s H) (hl:vs.length=ps.length) (r:Vals vs us)
  (x:InCallC s s.heap.objs.size (bindL (envOfC qual scope s.heap.objs.size f cd).kindOf (ps.zip us) fun _=>none) (cellsFrom (s.heap.objs.size+1) scope.names []) (bindC (envOfC qual scope s.heap.objs.size f cd).kindOf (ps.zip us) fun _=>none) s1) :
  Inv (cxOf CX P w K mg base N qual scope f cd A outer s H E) [] (start N vs) H s1:=by
 have hpl:ps.length≤N.length:=by have:=congrArg List.length S.pre;rw [length_take] at this;omega
 obtain ⟨h1,tk,rfl,hk⟩:=x.done;have noA:∀ b:Addr,b∉(cxOf CX P w K mg base N qual scope f cd A outer s H E).ex:=fun b z=>absurd (show b∈([]:List Addr) from z) (by simp);refine ⟨⟨e0.mod,S.kind,rfl,rfl,Nat.le_refl _,fun y z c h1 h2=>?_,fun y hy=>?_,fun y c _ h=>?_,fun _=>hd,Around.frames_deeper e0.frames,.inr ⟨rfl,rfl⟩,fun b z=>absurd z (noA b),e0.bs,e0.bsz,fun b _ _=>noA b,fun b z=>absurd z (noA b),e0.funs,e0.frf⟩,
  rfl,e0.bare,Un.kept hk,⟨_,x.toInCall.ns,fun i y v h1 h2 h3=>?_⟩,fun y c h=>⟨_,x.cell y c h⟩,e0.hok.fresh (Nat.le_refl _),fun y c h=>?_,fun p hp=>absurd (show p∈([]:List (Addr×Obj)) from hp) (by simp),e0.hok.kept hk,?_⟩
 ·exact name_of_addr x.apart (PySem.mem_of_lookup h1) (PySem.mem_of_lookup h2)
 ·have hy:scope.names.lookup y=some .cell∨scope.names.lookup y=some .free:=hy;rcases hy with hy | hy
  ·exact zhT hy
  ·exact absurd rfl (S.nofree _ (PySem.mem_of_lookup hy))
 ·exact Nat.le_of_lt (x.above y c (PySem.mem_of_lookup h))
 ·have hi:i < vs.length:=by
   unfold start at h2
   by_cases hi:i < vs.length
   ·exact hi
   ·rw [getElem?_append_right (by simpa using hi)] at h2;rw [List.getElem?_replicate] at h2;split at h2 <;> cases h2
  have ha:vs[i]? = some v:=by
   unfold start at h2;rw [List.getElem?_append_left (by simpa using hi),getElem?_map] at h2
   cases e:vs[i]? with
   | none=>rw [e] at h2;cases h2
   | some a=>rw [e] at h2;cases h2;rfl
  obtain ⟨u,hu,rv⟩:=r.get ha;have hp:ps[i]? = some y:=by
   rw [← S.pre,List.getElem?_take_of_lt (by omega)];exact h1
  have ndP:ps.Nodup:=by rw [← S.pre];exact S.nd.sublist (List.take_sublist _ _)
  refine ⟨u,rv,?_⟩;rcases S.par y (mem_of_getElem? hp) with k | k
  ·exact .inl ⟨k,zgn ndP hp hu k⟩
  ·obtain ⟨c,e⟩:=zhT (n:=s.heap.objs.size+1) k;refine .inr ⟨.inl k,c,e,?_⟩;have q:=x.cell y c e;rw [zgo ndP hp hu (by show scope.names.lookup y≠_;rw [k];decide)] at q;exact q
 ·exact e0.hok.fresh (Nat.le_of_lt (x.above y c (PySem.mem_of_lookup h)))
 ·unfold start;show _=N.length;rw [length_append,length_map,length_replicate];omega
theorem zn6 {CX:CXT} {P:Program} {w:World} {K:PySem.W.Frag} {mg:Str→Option Value} {base:Heap} {k:Nat} {f:Addr} {name qual:Str} {params:Arguments} {body:List Stmt} {scope:Scope} {dV kV doc pm cdv ct oc:Value} {an od:Option Addr}
  {osl:Array (Option Value)} {N ps:List Str} {sp:Sp} (lk:K.lookup f=some ⟨oc,od,.func (fnOf name qual params body scope dV kV doc pm an cdv ct),osl⟩) (hcd:codeIn K cdv qual=true) (S:zao N ps scope)
  (len:∀ vs H Q E,sp vs H Q E→vs.length=ps.length)
  (hbody:∀ (A:Around) (outer:List Env) (s:Shared) (H:Hp) (vs:List V) (Q:VK) (E:XK),Room k (A.deeper (envOfC qual scope s.heap.objs.size f cdv))→sp vs H Q E →
   ∃ t,PSs (cxOf CX P w K mg base N qual scope f cdv A outer s H E) body t∧t { nx:=fun _ H'=>Q .non H',rt:=Q } (start N vs) H) :
  FnOk P w K mg base CX (k+1) f (fnOf name qual params body scope dV kV doc pm an cdv ct) ps sp:=by
 refine ⟨len,fun A outer s H args us vs Q E hr e0 hb r hsp=>?_⟩;have hl:=len _ _ _ _ hsp;have KX:K.In s.heap:=e0.mod.kin.keeps fun b o e=>(e0.bs b o e).1;have lim:s.heap.NoLimit:=e0.mod.nolimit.keeps fun b o e=>(e0.bs b o e).1;have hkind:∀ y∈ps.zip us,scope.names.lookup y.1=some .local∨(scope.names.lookup y.1=some .cell∧((cellsFrom (s.heap.objs.size+1) scope.names []).lookup y.1).isSome=true):=fun ⟨n,v⟩ hy=>by
  rcases S.par n (of_mem_zip hy).1 with q | q
  ·exact .inl q
  ·exact .inr ⟨q,cellsFrom_some _ _ _ (.inl q)⟩
 refine codeAny_call_function hr.depth (KX _ _ lk) rfl S.co S.gen rfl (PySem.W.codeRec_of KX hcd) (hb _ _ _ _ ?_);refine wpAny_newFunctionEnv_cells S.kind hkind fun env he s1 x=>?_;subst he;refine ⟨lim.keeps x.toInCall.keep,codeAny_func ?_⟩;obtain ⟨t,ht,hq⟩:=hbody A outer s H vs Q E (hr.deeper _) hsp;have I:Inv (cxOf CX P w K mg base N qual scope f cdv A outer s H E) [] (start N vs) H s1:=zjq S hr.hd e0 hl r x;refine wpAny_mono (ht [] s1 (start N vs) H _ I hq) (fun fl s' hs=>?_) fun e s' hs=>hs;have fin:∀ {σ':St} {H':Hp} {v:V} {u:Value},Inv (cxOf CX P w K mg base N qual scope f cdv A outer s H E) [] σ' H' s'→RelV v u→Q v H'→CE outer P w H s Q u s' :=
  fun {σ' H' v u} J rv q=>⟨v,H',J.os,J.bare,J.base,J.hok,rv,q⟩
 cases fl with
 | ret u =>
   obtain ⟨v,σ',H',J,rv,q⟩:=hs;exact fin J rv q
 | next =>
   obtain ⟨σ',H',J,q⟩:=hs;exact fin (v:=V.non) (u:=Value.none) J rfl q
 | brk =>
   obtain ⟨_,_,_,q⟩:=hs;exact False.elim q
 | cont =>
   obtain ⟨_,_,_,q⟩:=hs;exact False.elim q
end L2
namespace L2
open PySem PySem.Spec PyProof.Rows
section
variable {X:Cx} {x:Str} {p pos:Pos} {e:Expr} {es:List Expr} {t:TA} {id T:String} {r:List V→Hp→VK→Prop}
def tCB (r:List V→Hp→VK→Prop) (t:TA):TE:=fun σ H Q=>t σ H fun vs H1=>r vs H1 Q
theorem zag (hc:zdj X (.builtin id) r) (hg:Gl X x) (hm:X.mg x=none) (hv:bootBuiltins x=some (.builtin id)) (ha:PA X (e::es) t) (hn:x≠"__name__":=by decide) (hdb:(x == ("__debug__" : Str))=false:=by decide)
  (he:starEach (e::es) X.env=(false,eval e X.env)::starEach es X.env:=by rfl) (hpl:(backTo pos (starEach es X.env)).any (·.1)=false:=by rfl):PE X (.Call (.Name x p) (e::es) [] pos) (tCB r t):=by
 intro pins s σ H Q I h;refine wpAny_Call_Name_kw (zeE I hg hm hv ?_ hn hdb);exact PyProof.Rows.callWith_builtin1 (thn (ha pos pins s σ H _ I h) fun us s1 ⟨vs,H1,I1,r1,q1⟩=>hc pins s1 σ H1 vs us Q I1 r1 q1) he hpl
end
end L2
namespace HT
open PySem PyProof.Rows
section
open PySem.SeqAt
open PySem.AutoSeq1 (wpAny_loadPart')
open PySem.MeetsSeq PySem.MeetsSeq2 PySem.MeetsSeq3
end
section
variable {prog:Program} {w:World} {A:Around} {E:Value→Shared→Prop} {s:Shared}
def sIx (n d:Nat):Option Int→Nat
 | none=>d
 | some v=>if v < 0 then (v+(n:Int)).toNat else min v.toNat n
theorem sIx_none (n d:Nat):sIx n d none=d:=rfl
theorem sIx_nat (n d k:Nat):sIx n d (some (k:Int))=min k n:=by
 show (if (k:Int) < 0 then ((k:Int)+(n:Int)).toNat else min (k:Int).toNat n)=min k n;rw [if_neg (by omega),Int.toNat_natCast]
end
end HT
namespace L2
open PySem PySem.Spec PyProof.Rows
abbrev TO:=St→Hp→(Option Int→Hp→Prop)→Prop
def PO (X:Cx) (e:Option Expr) (t:TO):Prop :=
 ∀ (pins:List (Addr×Obj)) (s:Shared) (σ:St) (H:Hp) (Q:Option Int→Hp→Prop),Inv X pins σ H s→t σ H Q →
  wpAny (model X.prog X.w) X.A (evalPart e X.env) (fun u s'=>∃ o H',Inv X pins σ H' s'∧IsPart u o∧Q o H') X.xe s
def tNoPart:TO:=fun _ H Q=>Q none H
def zmT (t:TE):TO:=fun σ H Q=>t σ H fun x H1=>∃ i,x=.int i∧Q (some i) H1
theorem intsAre_of {ns:List Int}:∀ {us:List Value},Vals (ns.map V.int) us→IntsAre us ns:=by
 induction ns with
 | nil=>intro us r;rw [map_nil] at r;cases r;exact .nil
 | cons n ns ih =>
   intro us r;rw [map_cons] at r
   cases r with
   | cons r1 r2 =>
     obtain ⟨t,e⟩:=r1;subst e;exact .cons n t (ih r2)
section
variable {X:Cx} {e:Expr} {te:TE} {lo hi:Option Expr} {tl th:TO} {pos p2:Pos}
theorem po_none:PO X none tNoPart:=by
 intro pins s σ H Q I h;rw [evalPart_none];exact wpAny_pure ⟨none,H,I,.none,h⟩
theorem zeI (h:PE X e te):PO X (some e) (zmT te):=by
 intro pins s σ H Q I hw;rw [evalPart_some];refine thn (h pins s σ H _ I hw) fun u s1 ⟨x,H1,I1,r1,q1⟩=>?_;obtain ⟨i,rfl,q⟩:=q1;obtain ⟨t,rfl⟩:=r1;exact ⟨some i,H1,I1,.int i t,q⟩
def SlR (X:Cx) (r:V→Option Int→Option Int→Hp→VK→Prop):Prop :=
 ∀ (pins:List (Addr×Obj)) (s:Shared) (σ:St) (H:Hp) (x:V) (v vl vu:Value) (lo hi:Option Int) (sl:Addr) (Q:VK),Inv X pins σ H s→RelV x v→s.heap.IsSliceOf sl vl vu .none→IsPart vl lo→IsPart vu hi→r x lo hi H Q →
  ∃ T id,typeLookup (.type T) "__getitem__"=pure (some (.builtin id))∧s.TypeIs v T∧wpAny (model X.prog X.w) X.A (getItem v (.ref sl)) (EP X pins σ Q) X.xe s
def tSl (r:V→Option Int→Option Int→Hp→VK→Prop) (te:TE) (tl th:TO):TE:=fun σ H Q=>te σ H fun x H1=>tl σ H1 fun l H2=>th σ H2 fun u H3=>r x l u H3 Q
theorem zdH {r:V→Option Int→Option Int→Hp→VK→Prop} (hr:SlR X r) (he:PE X e te) (hl:PO X lo tl) (hu:PO X hi th):PE X (.Subscript e (.Slice lo hi none p2) pos) (tSl r te tl th):=by
 intro pins s σ H Q I h;refine Subscript_ (thn (he pins s σ H _ I h) fun v s1 ⟨x,H1,I1,r1,q1⟩=>?_);refine wpAny_Slice (thn (hl pins s1 σ H1 _ I1 q1) fun vl s2 ⟨l,H2,I2,pl,q2⟩=>thn (hu pins s2 σ H2 _ I2 q2) fun vu s3 ⟨u,H3,I3,pu,q3⟩=>?_);rw [evalPart_none];refine wpAny_pure ?_;have I4:Inv X pins σ H3 { s3 with heap:=s3.heap.push { cls:=.type "slice",data:=.fields #[vl,vu,.none] } }:=I3.kept (t':=s3.toks) fun b ob q=>Heap.get?_push_of_some _ q;obtain ⟨T,id,hT,ht,hg⟩:=hr pins { s3 with heap:=s3.heap.push { cls:=.type "slice",data:=.fields #[vl,vu,.none] } } σ H3 x v vl vu l u s3.heap.objs.size Q I4 r1 (Heap.IsSliceOf.new ..) pl pu q3;show wpAny (model X.prog X.w) X.A (subscriptTail e (.Slice lo hi none p2) v (.ref s3.heap.objs.size)) (EP X pins σ Q) X.xe { s3 with heap:=s3.heap.push { cls:=.type "slice",data:=.fields #[vl,vu,.none] } };exact tail_any (ops:=[.ref s3.heap.objs.size,v]) ht hT hg (by with_unfolding_all rfl)
def cutV (xs:List V) (lo hi:Option Int):List V:=(xs.drop (HT.sIx xs.length 0 lo)).take (HT.sIx xs.length xs.length hi-HT.sIx xs.length 0 lo)
theorem zha (xs:List V) (lo hi:Option Int):(cutV xs lo hi).length≤xs.length:=by
 unfold cutV;rw [length_take,length_drop];omega
end
end L2
namespace L2
open PySem PySem.Spec PyProof.Rows
def ixN (n:Nat) (i:Int):Option Nat:=if 0≤i then (if i < n then some i.toNat else none) else if -(n:Int)≤i then some (i+n).toNat else none
def atI {α:Type} (xs:List α) (i:Int):Option α:=(ixN xs.length i).bind fun j=>xs[j]?
theorem zjr {n:Nat} {i:Int} {j:Nat} (h:ixN n i=some j):seqIndex? i n=some j∧j < n∧-(n:Int)≤i∧i < n:=by
 unfold ixN at h
 by_cases h0:0≤i
 ·rw [if_pos h0] at h
  by_cases h1:i < n
  ·rw [if_pos h1] at h;have e:i.toNat=j:=Option.some.inj h;exact ⟨by rw [seqIndex_of h0 h1,e],by omega,by omega,h1⟩
  ·rw [if_neg h1] at h;cases h
 ·rw [if_neg h0] at h
  by_cases h1 : -(n:Int)≤i
  ·rw [if_pos h1] at h;have e:(i+n).toNat=j:=Option.some.inj h;exact ⟨by rw [seqIndex_neg (by omega) h1,e],by omega,h1,by omega⟩
  ·rw [if_neg h1] at h;cases h
theorem zlU {α:Type} {xs:List α} {i:Int} {v:α} (h:atI xs i=some v):∃ j,seqIndex? i xs.length=some j∧xs[j]? = some v∧j < xs.length∧-(xs.length:Int)≤i∧i < xs.length:=by
 unfold atI at h
 cases e:ixN xs.length i with
 | none=>rw [e] at h;cases h
 | some j =>
   rw [e] at h;obtain ⟨h1,h2,h3,h4⟩:=zjr e;exact ⟨j,h1,h,h2,h3,h4⟩
theorem zfQ {α:Type} {xs:List α} {j:Nat} {v:α} (h:xs[j]? = some v):atI xs (j:Int)=some v:=by
 have hj:j < xs.length:=(List.getElem?_eq_some_iff.mp h).1;have e:ixN xs.length (j:Int)=some j:=by
  unfold ixN;rw [if_pos (by omega),if_pos (by omega)];simp
 unfold atI;rw [e];exact h
def zlV (b:Expr):Prop:=∀ o i,subscripted b false o i=operate [o,i] (getItem o i)
def IxR (X:Cx) (r:R2):Prop :=
 ∀ (value slice:Expr) (pins:List (Addr×Obj)) (s:Shared) (σ:St) (H:Hp) (x y:V) (v u:Value) (Q:VK),Inv X pins σ H s→RelV x v→RelV y u→r x y H Q →
  subscripted slice false v u=operate [v,u] (getItem v u)→wpAny (model X.prog X.w) X.A (subscriptTail value slice v u) (EP X pins σ Q) X.xe s
def MtR (X:Cx) (id:String) (r:V→List V→Hp→VK→Prop):Prop :=
 ∀ (pins:List (Addr×Obj)) (s:Shared) (σ:St) (H:Hp) (x:V) (xs:List V) (v:Value) (us:List Value) (Q:VK),Inv X pins σ H s→RelV x v→Vals xs us→r x xs H Q →
  wpAny (model X.prog X.w) X.A (call (.builtin id) (v::us)) (EP X pins σ Q) X.xe s
section
variable {X:Cx} {a b:Expr} {ta tb:TE} {pos:Pos}
theorem zas {r:R2} (hr:IxR X r) (ha:PE X a ta) (hb:PE X b tb) (hs:zlV b):PE X (.Subscript a b pos) (tOp r ta tb):=by
 intro pins s σ H Q I h;exact Subscript_ (binT ha hb I h fun v u s2 x y H2 I2 rx ry q=>hr a b pins s2 σ H2 x y v u Q I2 rx ry q (hs _ _))
def rIxL (K:PySem.W.Frag):R2:=fun x y H Q=>∃ p xs i v,x=.ref p∧y=.int i∧SqL K H p xs∧atI xs i=some v∧Q v H
theorem ix_list:IxR X (rIxL X.K):=by
 intro value slice pins s σ H x y v u Q I rx ry h hs;obtain ⟨p,xs,i,z,rfl,rfl,hq,he,q⟩:=h
 cases rx
 obtain ⟨t,rfl⟩:=ry;obtain ⟨its,r,pl,hz⟩:=I.list hq;obtain ⟨j,h1,h2,h3,h4,h5⟩:=zlU he;obtain ⟨w,ew,rw'⟩:=r.get h2;have hl:=r.length;have hn:=line63;have fin:EP X pins σ Q w s:=⟨z,H,I,rw',q⟩
 by_cases h0:0≤i
 ·have hj:i.toNat=j:=by
   rw [seqIndex_of h0 h5] at h1;exact Option.some.inj h1
  exact item_listR pl.isList h0 (by omega) (by rw [hj];simpa using ew) fin hs
 ·have hj:(i+(its.toArray.size:Int)).toNat=j:=by
   rw [seqIndex_neg (by omega) h4] at h1;rw [size_toArray,← hl];exact Option.some.inj h1
  exact subscriptTail_builtinR (x:=w) pl.isList.typeIs slot_list_getitem.lookup
   (wpAny_getItem_list_neg (Q:=fun r s'=>r=w∧EP X pins σ Q r s') pl.isList (by omega) (by rw [size_toArray] <;> omega) (by omega) (by rw [hj];simpa using ew) ⟨rfl,fin⟩) hs
theorem ziv (its:List Value) (n j:Nat) (u:Value):Obj.mapSeq (·.setIfInBounds j u) { cls:=.type "list",data:=.seq its.toArray n }={ cls:=.type "list",data:=.seq (its.set j u).toArray n }:=by
 simp [Obj.mapSeq]
theorem Inv.lst {pins:List (Addr×Obj)} {σ:St} {H:Hp} {s:Shared} {p:Addr} {xs:List V} (I:Inv X pins σ H s) (h:H p=some (.lst xs)) :
  ∃ (its:List Value) (n:Nat),Vals xs its∧s.heap.get? p=some { cls:=.type "list",data:=.seq its.toArray n }∧xs.length≤sizeLine:=by
 obtain ⟨z,its,n,r,e⟩:=I.hok p _ h;exact ⟨its,n,r,e,z⟩
theorem Inv.lstUpd {pins:List (Addr×Obj)} {σ:St} {H:Hp} {s:Shared} {p:Addr} {xs ys:List V} {its its':List Value} {n n':Nat} {f:Obj→Obj} (I:Inv X pins σ H s) (h:H p=some (.lst xs))
  (ho:s.heap.get? p=some { cls:=.type "list",data:=.seq its.toArray n }) (hf:f { cls:=.type "list",data:=.seq its.toArray n }={ cls:=.type "list",data:=.seq its'.toArray n' }) (r:Vals ys its') (hz:ys.length≤sizeLine) (t:Nat) :
  Inv X pins σ (upd H p (.lst ys)) { s with heap:=s.heap.update p f,toks:=t }:=by
 have e:(s.heap.update p f).get? p=some { cls:=.type "list",data:=.seq its'.toArray n' }:=by
  rw [Heap.get?_update_self f ho (by rw [hf] <;> rfl),hf]
 refine I.write (x:=p) (e:=p) (by rw [h];trivial) (.inl rfl) (fun b u hb q=>(Heap.get?_update_other _ _ (Ne.symm hb)).trans q) ⟨_,e⟩ ?_;exact ⟨hz,its',n',r,e⟩
def rSetL:V→V→V→Hp→(Hp→Prop)→Prop:=fun o i v H Q=>∃ p xs k j,o=.ref p∧i=.int k∧H p=some (.lst xs)∧ixN xs.length k=some j∧Q (upd H p (.lst (xs.set j v)))
theorem set_list:PSet X rSetL:=by
 intro pins s σ H o i v ov iv u Q I ro ri rv h;obtain ⟨p,xs,k,j,rfl,rfl,hp,hj,q⟩:=h
 cases ro
 obtain ⟨t,rfl⟩:=ri;obtain ⟨its,n,r,ho,hz⟩:=I.lst hp;obtain ⟨h1,h2,h3,h4⟩:=zjr hj;have hl:=r.length;have hn:=line63;have I':Inv X pins σ (upd H p (.lst (xs.set j v))) { s with heap:=s.heap.update p (Obj.mapSeq (·.setIfInBounds j u)) } :=
  I.lstUpd hp ho (ziv its n j u) (r.set rv j) (by rw [length_set];exact hz) s.toks
 by_cases h0:0≤k
 ·have hk:k.toNat=j:=by
   rw [seqIndex_of h0 h4] at h1;exact Option.some.inj h1
  exact PySem.W.ki_setAt ho h0 (by omega) (by rw [size_toArray,← hl];exact h4) (by rw [hk];exact ⟨_,I',q⟩)
 ·have hk:(k+(its.toArray.size:Int)).toNat=j:=by
   rw [seqIndex_neg (by omega) h3] at h1;rw [size_toArray,← hl];exact Option.some.inj h1
  exact PySem.W.ki_setBack ho (by omega) (by rw [size_toArray,← hl];exact h3) (by omega) (by rw [hk];exact ⟨_,I',q⟩)
theorem zgp (lo hi:Option Int) (n:Nat):(sliceBounds lo hi none n).1=((HT.sIx n 0 lo:Nat):Int)∧(sliceBounds lo hi none n).2.1=((HT.sIx n n hi:Nat):Int)∧(sliceBounds lo hi none n).2.2=1:=by
 refine ⟨?_,?_,rfl⟩
 ·cases lo with
  | none=>simp [sliceBounds,HT.sIx]
  | some i =>
    simp only [sliceBounds,HT.sIx,Option.getD_none,show (1:Int) > 0 by decide,if_true]
    by_cases h:i < 0
    ·simp only [h,if_true] <;> omega
    ·simp only [h,if_false] <;> omega
 ·cases hi with
  | none=>simp [sliceBounds,HT.sIx]
  | some i =>
    simp only [sliceBounds,HT.sIx,Option.getD_none,show (1:Int) > 0 by decide,if_true]
    by_cases h:i < 0
    ·simp only [h,if_true] <;> omega
    ·simp only [h,if_false] <;> omega
theorem zfR (its:List Value) (lo hi:Option Int):slicePick its.toArray lo hi none=((its.drop (HT.sIx its.length 0 lo)).take (HT.sIx its.length its.length hi-HT.sIx its.length 0 lo)).toArray:=by
 obtain ⟨h1,h2,h3⟩:=zgp lo hi its.toArray.size;unfold slicePick;rw [h1,h2,h3];simp only [sliceRange_one,pick_run,size_toArray] <;> rfl
def rSlL (K:PySem.W.Frag):V→Option Int→Option Int→Hp→VK→Prop:=fun x lo hi H Q=>∃ a xs,x=.ref a∧SqL K H a xs∧∀ p,H p=none→Q (.ref p) (upd H p (.lst (cutV xs lo hi)))
theorem sl_list:SlR X (rSlL X.K):=by
 intro pins s σ H x v vl vu lo hi sl Q I rx hs pl pu h;obtain ⟨a,xs,rfl,hx,q⟩:=h
 cases rx
 obtain ⟨its,r,ht,hz⟩:=I.list hx;have hlen:=r.length;refine ⟨"list",_,slot_list_getitem.lookup,ht.isList.typeIs,?_⟩;refine wpAny_getItem_list_slice ht.isList hs pl pu .none (by simp) ?_ (by rw [size_toArray] <;> omega);rw [zfR,← hlen];refine ⟨.ref s.heap.objs.size,_,I.laid (t':=s.toks) (o:=.lst (cutV xs lo hi)) (fun b ob q=>Heap.get?_push_of_some _ q) (Nat.le_refl _) ?_,rfl,q _ (I.hok.fresh (Nat.le_refl _))⟩;exact ⟨Nat.le_trans (zha xs lo hi) hz,_,0,(r.drop (HT.sIx xs.length 0 lo)).take (HT.sIx xs.length xs.length hi-HT.sIx xs.length 0 lo),Heap.get?_push_size _ rfl⟩
def flatV:V→Bool
 | .non=>true
 | .bl _=>true
 | .int _=>true
 | .str _=>true
 | _=>false
def eqV:V→V→Bool
 | .non,.non=>true
 | .bl a,.bl b=>a == b
 | .bl a,.int b=>(if a then 1 else 0) == b
 | .int a,.bl b=>a == (if b then 1 else 0)
 | .int a,.int b=>a == b
 | .str a,.str b=>a == b
 | _,_=>false
theorem zjs {A:Around} {s:Shared} {y x:V} {u v:Value} (ry:RelV y u) (rx:RelV x v) (fy:flatV y=true) (fx:flatV x=true):SeqAt.EqAt A s u v (eqV y x):=by
 cases y with
 | non =>
   cases ry
   cases x with
   | non=>cases rx;exact SeqAt.EqAt.same _
   | bl b=>cases rx;exact SeqAt.EqAt.none_bool b
   | int b=>obtain ⟨t,rfl⟩:=rx;exact SeqAt.EqAt.none_int b t
   | str b=>obtain ⟨t,rfl⟩:=rx;exact SeqAt.EqAt.none_str b t
   | _=>exact absurd (show false=true from fx) Bool.false_ne_true
 | bl a =>
   cases ry
   cases x with
   | non=>cases rx;exact SeqAt.EqAt.bool_none a
   | bl b=>cases rx;exact SeqAt.EqAt.bool_bool a b
   | int b=>obtain ⟨t,rfl⟩:=rx;exact SeqAt.EqAt.bool_int a b t
   | str b=>obtain ⟨t,rfl⟩:=rx;exact SeqAt.EqAt.bool_str a b t
   | _=>exact absurd (show false=true from fx) Bool.false_ne_true
 | int a =>
   obtain ⟨t',rfl⟩:=ry
   cases x with
   | non=>cases rx;exact SeqAt.EqAt.int_none a t'
   | bl b=>cases rx;exact SeqAt.EqAt.int_bool a t' b
   | int b=>obtain ⟨t,rfl⟩:=rx;exact SeqAt.EqAt.int_int a t' b t
   | str b=>obtain ⟨t,rfl⟩:=rx;exact SeqAt.EqAt.int_str a t' b t
   | _=>exact absurd (show false=true from fx) Bool.false_ne_true
 | str a =>
   obtain ⟨t',rfl⟩:=ry
   cases x with
   | non=>cases rx;exact SeqAt.EqAt.str_none a t'
   | bl b=>cases rx;exact SeqAt.EqAt.str_bool a t' b
   | int b=>obtain ⟨t,rfl⟩:=rx;exact SeqAt.EqAt.str_int a t' b t
   | str b=>obtain ⟨t,rfl⟩:=rx;exact SeqAt.EqAt.str_str a t' b t
   | _=>exact absurd (show false=true from fx) Bool.false_ne_true
 | _=>exact absurd (show false=true from fy) Bool.false_ne_true
def eqU (x:V) (u:Value):Bool:=match u with
 | .none=>eqV .non x
 | .bool b=>eqV (.bl b) x
 | .int i _=>eqV (.int i) x
 | .str z _=>eqV (.str z) x
 | _=>false
theorem zlt {x y:V} {u:Value} (r:RelV y u) (f:flatV y=true):eqU x u=eqV y x:=by
 cases y with
 | non=>cases r;rfl
 | bl b=>cases r;rfl
 | int i=>obtain ⟨t,rfl⟩:=r;rfl
 | str z=>obtain ⟨t,rfl⟩:=r;rfl
 | _=>exact absurd (show false=true from f) Bool.false_ne_true
theorem zeJ {x:V}:∀ {xs:List V} {us:List Value},Vals xs us→xs.all flatV=true→us.any (eqU x)=xs.any fun y=>eqV y x
 | _,_,.nil,_=>rfl
 | y::xs,u::us,.cons r t,f=>by
   rw [all_cons,Bool.and_eq_true] at f;rw [any_cons,any_cons,zlt r f.1,zeJ t f.2]
theorem zdI {A:Around} {s:Shared} {x:V} {v:Value} (rx:RelV x v) (fx:flatV x=true):∀ {xs:List V} {us:List Value},Vals xs us→xs.all flatV=true→∀ u∈us,SeqAt.EqAt A s u v (eqU x u)
 | _,_,.nil,_=>fun u hu=>by cases hu
 | y::xs,u::us,.cons r t,f=>fun u' hu=>by
   rw [all_cons,Bool.and_eq_true] at f;rcases mem_cons.mp hu with rfl | hu
   ·rw [zlt r f.1];exact zjs r rx f.1 fx
   ·exact zdI rx fx t f.2 u' hu
def inV (x:V) (xs:List V):Bool:=xs.any fun y=>eqV y x
def rIn (K:PySem.W.Frag) (neg:Bool):R2:=fun x y H Q=>∃ p xs,y=.ref p∧(SqL K H p xs∨SqT K H p xs)∧flatV x=true∧xs.all flatV=true∧Q (.bl (if neg then !inV x xs else inV x xs)) H
theorem op_in_seq:OpR X (compareOp .In) (rIn X.K false):=by
 intro pins s σ H x y v u Q I rx ry h;obtain ⟨p,xs,rfl,hq,fx,fs,q⟩:=h
 cases ry
 rcases hq with hq | hq
 ·obtain ⟨its,r,pl,hz⟩:=I.list hq;refine SeqAt.in_listAt (eqU x) pl.isList (fun w hw=>zdI rx fx r fs w (by simpa using hw)) ⟨.bl _,H,I,rfl,?_⟩;rw [show its.toArray.any (eqU x)=its.any (eqU x) by simp,zeJ r fs];exact q
 ·obtain ⟨its,r,pl,hz⟩:=I.tuple hq;refine SeqAt.in_tupleAt (eqU x) pl (fun w hw=>zdI rx fx r fs w (by simpa using hw)) ⟨.bl _,H,I,rfl,?_⟩;rw [show its.toArray.any (eqU x)=its.any (eqU x) by simp,zeJ r fs];exact q
theorem op_notIn_seq:OpR X (compareOp .NotIn) (rIn X.K true):=by
 intro pins s σ H x y v u Q I rx ry h;obtain ⟨p,xs,rfl,hq,fx,fs,q⟩:=h
 cases ry
 rcases hq with hq | hq
 ·obtain ⟨its,r,pl,hz⟩:=I.list hq;refine SeqAt.notIn_listAt (eqU x) pl.isList (fun w hw=>zdI rx fx r fs w (by simpa using hw)) ⟨.bl _,H,I,rfl,?_⟩;rw [show its.toArray.any (eqU x)=its.any (eqU x) by simp,zeJ r fs];exact q
 ·obtain ⟨its,r,pl,hz⟩:=I.tuple hq;refine SeqAt.notIn_tupleAt (eqU x) pl (fun w hw=>zdI rx fx r fs w (by simpa using hw)) ⟨.bl _,H,I,rfl,?_⟩;rw [show its.toArray.any (eqU x)=its.any (eqU x) by simp,zeJ r fs];exact q
theorem call_len_seq:zdj X (.builtin "len") (fun xs H Q=>∃ p ys,xs=[.ref p]∧(SqL X.K H p ys∨SqT X.K H p ys)∧Q (.int ys.length) H):=by
 intro pins s σ H xs us Q I r h;obtain ⟨p,ys,rfl,hq,q⟩:=h;obtain ⟨u,rfl,rx⟩:=vals1 r
 cases rx
 have hn:=line63;rcases hq with hq | hq
 ·obtain ⟨its,r',pl,hz⟩:=I.list hq;have hlen:=r'.length;exact Calls.call_len_list pl.isList (by simp only [size_toArray] <;> omega) ⟨.int ys.length,H,I.tok _,⟨s.toks+1,by rw [size_toArray,hlen]⟩,q⟩
 ·obtain ⟨its,r',pl,hz⟩:=I.tuple hq;have hlen:=r'.length;exact len_tuple pl (by simp only [size_toArray] <;> omega) ⟨.int ys.length,H,I.tok _,⟨s.toks+1,by rw [size_toArray,hlen]⟩,q⟩
def tyV (K:PySem.W.Frag) (T:String) (x:V) (H:Hp):Prop:=match x with
 | .str _=>T = "str"
 | .int _=>T = "int"
 | .ref p=>(T = "list"∧∃ xs,SqL K H p xs)∨(T = "tuple"∧∃ o,K.lookup p=some o∧o.cls=.type "tuple"∧o.dict=none) ∨
    (T = "dict"∧((∃ kvs,H p=some (.dK kvs))∨∃ kvs,H p=some (.dT kvs)))∨(T = "set"∧∃ S n,H p=some (.set S n))
 | _=>False
theorem zmU {pins:List (Addr×Obj)} {σ:St} {H:Hp} {s:Shared} {T:String} {x:V} {v:Value} (I:Inv X pins σ H s) (r:RelV x v) (ty:tyV X.K T x H) :
  s.TypeIs v T∧∀ a,v=.ref a→∃ ob,s.heap.get? a=some ob∧ob.dict=none:=by
 cases x with
 | str z =>
   obtain ⟨t,rfl⟩:=r
   cases (show T = "str" from ty)
   exact ⟨typeIs_str s z t,fun _ e=>nomatch e⟩
 | int i =>
   obtain ⟨t,rfl⟩:=r
   cases (show T = "int" from ty)
   exact ⟨typeIs_int s i t,fun _ e=>nomatch e⟩
 | ref p =>
   cases r
   rcases ty with ⟨rfl,xs,hq⟩ | ⟨rfl,o,hk,hc,hd⟩ | ⟨rfl,hk⟩ | ⟨rfl,S,n,hk⟩
   ·obtain ⟨its,_,pl,_⟩:=I.list hq;refine ⟨pl.isList.typeIs,fun a e=>?_⟩
    cases e
    obtain ⟨o,n,e,c,hd,_⟩:=pl;exact ⟨o,e,hd⟩
   ·refine ⟨⟨o,I.kIn p o hk,hc⟩,fun a e=>?_⟩
    cases e
    exact ⟨o,I.kIn _ o hk,hd⟩
   ·have z:∃ o,s.heap.get? p=some o∧o.ExactDict:=by
     rcases hk with ⟨kvs,hk⟩ | ⟨kvs,hk⟩
     ·obtain ⟨_,_,_,_,o,_,_,e,ex,_⟩:=I.hok p _ hk;exact ⟨o,e,ex⟩
     ·obtain ⟨_,_,_,_,o,_,_,e,ex,_⟩:=I.hok p _ hk;exact ⟨o,e,ex⟩
    obtain ⟨o,e,ex⟩:=z;refine ⟨⟨o,e,ex.1⟩,fun a e2=>?_⟩
    cases e2
    exact ⟨o,e,ex.2.1⟩
   ·obtain ⟨o,_,_,_,e,ex,_⟩:=I.hok p _ hk;refine ⟨⟨o,e,ex.1⟩,fun a e2=>?_⟩
    cases e2
    exact ⟨o,e,ex.2.1⟩
 | _=>exact False.elim ty
def tBM (K:PySem.W.Frag) (T:String) (r:V→List V→Hp→VK→Prop) (to:TE) (t:TA):TE:=fun σ H Q=>to σ H fun x H1=>tyV K T x H1∧t σ H1 fun xs H2=>r x xs H2 Q
variable {o e:Expr} {es:List Expr} {to:TE} {t:TA} {name:Str} {apos cpos:Pos} {T id:String} {r:V→List V→Hp→VK→Prop}
theorem zn7 (pa:PlainAttrs T) (slot:Slot T name id) (hty:typeOf (.builtin id)=pure (.type "method_descriptor")) (hm:MtR X id r) (ho:PE X o to) (ha:PA X (e::es) t)
  (hbase:attributeBase o name X.env (eval o X.env)=eval o X.env:=by rfl)
  (hfew:((backTo cpos (starEach (e::es) X.env)).all (fun x=>!x.1) && (backToKw cpos (keywordEach [] X.env)).all (fun x=>x.1.isSome)
   && decide ((e::es).length+([]:List Keyword).length+(if ([]:List Keyword).isEmpty then 0 else 1) < 30))=true:=by rfl)
  (hline:(apos.endLine == cpos.line)=true:=by rfl) (hs:starEach (e::es) X.env=(false,eval e X.env)::starEach es X.env:=by rfl) (hplain:(backTo cpos (starEach es X.env)).any (·.1)=false:=by rfl) :
  PE X (.Call (.Attribute o name apos) (e::es) [] cpos) (tBM X.K T r to t):=by
 intro pins s σ H Q I h;refine wpAny_Call_method_late hbase hfew hline rfl (thn (ho pins s σ H _ I h) fun v s1 ⟨x,H1,I1,r1,ty,q1⟩=>?_);obtain ⟨h1,h2⟩:=zmU I1 r1 ty;refine ⟨T,id,pa,slot,hty,h1,h2,?_⟩;have hA:=ha cpos pins s1 σ H1 _ I1 q1;rw [hs] at hA ⊢;refine Calls.callWith_builtin (by show (false || (backTo cpos (starEach es X.env)).any (·.1))=false;rw [hplain] <;> rfl) (Calls.evalArgs_plain ?_);exact thn hA fun us s2 ⟨vs,H2,I2,r2,q2⟩=>hm pins s2 σ H2 x vs v us Q I2 r1 r2 q2
end
end L2
namespace L2
open PySem PySem.Spec PyProof.Rows
def MtM (X:Cx) (id:String) (r:V→List V→Hp→VK→Prop):Prop :=
 ∀ (pins:List (Addr×Obj)) (s:Shared) (σ:St) (H:Hp) (x:V) (xs:List V) (v:Value) (us:List Value) (Q:VK),Inv X pins σ H s→RelV x v→Vals xs us→r x xs H Q →
  wpAny (model X.prog X.w) X.A (call (.builtin id) (v::us)) (EP X pins σ Q) X.xe s
theorem Vals.one:∀ {x:V} {us:List Value},Vals [x] us→∃ u,us=[u]∧RelV x u
 | _,_,.cons r .nil=>⟨_,rfl,r⟩
theorem Vals.two:∀ {x y:V} {us:List Value},Vals [x,y] us→∃ u v,us=[u,v]∧RelV x u∧RelV y v
 | _,_,_,.cons r (.cons q .nil)=>⟨_,_,rfl,r,q⟩
section
variable {X:Cx} {pins:List (Addr×Obj)} {σ:St} {H:Hp} {s:Shared} {l b:Addr} {xs ys zs:List V}
theorem Inv.lset {its its':List Value} {n:Nat} {f:Array Value→Array Value} {t':Nat} (I:Inv X pins σ H s) (hH:H l=some (.lst xs))
  (e:s.heap.get? l=some { cls:=.type "list",data:=.seq its.toArray n }) (hf:f its.toArray=its'.toArray) (hv:Vals ys its') (hz:ys.length≤sizeLine) :
  Inv X pins σ (upd H l (.lst ys)) { s with heap:=s.heap.update l (Obj.mapSeq f),toks:=t' }:=by
 have q:=PySem.IsL.update e f;rw [hf] at q;refine I.write (x:=l) (e:=l) (by rw [hH];exact trivial) (.inl rfl) (fun b' u hb hu=>(Heap.get?_update_other s.heap (Obj.mapSeq f) (Ne.symm hb)).trans hu) ⟨_,q⟩ ?_;exact ⟨hz,its',_,hv,q⟩
theorem Inv.lnew {its:List Value} {t':Nat} (I:Inv X pins σ H s) (hv:Vals ys its) (hz:ys.length≤sizeLine) :
  Inv X pins σ (upd H s.heap.objs.size (.lst ys)) { s with heap:=s.heap.push { cls:=.type "list",data:=.seq its.toArray },toks:=t' } :=
 I.laid (fun _ _ q=>Heap.get?_push_of_some _ q) (Nat.le_refl _) ⟨hz,its,0,hv,Heap.get?_push_size _ rfl⟩
theorem Inv.fresh (I:Inv X pins σ H s):H s.heap.objs.size=none:=I.hok.fresh (Nat.le_refl _)
theorem Inv.lstM (I:Inv X pins σ H s) (hH:H l=some (.lst xs)):xs.length≤sizeLine∧∃ (its:List Value) (n:Nat),Vals xs its∧xs.length=its.length∧s.heap.get? l=some { cls:=.type "list",data:=.seq its.toArray n }:=by
 obtain ⟨z,its,n,r,e⟩:=I.hok l _ hH;exact ⟨z,its,n,r,r.length,e⟩
theorem zfS {n:Nat} (h:n≤sizeLine):Builtin.List.listTooLong n=false:=by
 unfold Builtin.List.listTooLong;exact decide_eq_false (by omega)
end
section
variable {X:Cx}
def rAppend:V→List V→Hp→VK→Prop:=fun x vs H Q=>∃ l xs y,x=.ref l∧vs=[y]∧H l=some (.lst xs)∧xs.length < sizeLine∧Q .non (upd H l (.lst (xs++[y])))
theorem mt_append:MtM X "list.append" rAppend:=by
 intro pins s σ H x vs v us Q I rx rv h;obtain ⟨l,xs,y,rfl,rfl,hH,hz,q⟩:=h
 cases rx
 obtain ⟨u,rfl,ru⟩:=rv.one;obtain ⟨z,its,n,r,hl,e⟩:=I.lstM hH;refine call_meets F.slot_list_append ⟨_,e,rfl⟩ F.entry_list_append (F.args_list_append_2 _ _) (PySem.list_append l its.toArray n u (by rw [size_toArray];omega)) ⟨e,?_⟩;refine ⟨.non,_,I.lset (its':=its++[u]) hH e (by simp) (r.append (.cons ru .nil)) ?_,rfl,q⟩;rw [length_append,length_singleton];omega
def rExtend:V→List V→Hp→VK→Prop:=fun x vs H Q=>∃ l b xs zs,x=.ref l∧vs=[.ref b]∧H l=some (.lst xs)∧H b=some (.lst zs)∧xs.length+zs.length≤sizeLine∧Q .non (upd H l (.lst (xs++zs)))
theorem mt_extend:MtM X "list.extend" rExtend:=by
 intro pins s σ H x vs v us Q I rx rv h;obtain ⟨l,b,xs,zs,rfl,rfl,hH,hB,hz,q⟩:=h
 cases rx
 obtain ⟨u,rfl,ru⟩:=rv.one
 cases ru
 obtain ⟨z,its,n,r,hl,e⟩:=I.lstM hH;obtain ⟨z2,its2,n2,r2,hl2,e2⟩:=I.lstM hB;have hsz:its.toArray.size+its2.toArray.size≤sizeLine:=by rw [size_toArray,size_toArray];omega
 have hlong:¬(!its.toArray.isEmpty && Builtin.List.listTooLong (its.toArray.size+its2.toArray.size))=true:=by
  rw [zfS hsz,Bool.and_false];exact Bool.false_ne_true
 refine call_meets F.slot_list_extend ⟨_,e,rfl⟩ F.entry_list_extend (F.args_list_extend_2 _ _)
  (AutoSeq1.list_extend_list_list_0 l its.toArray n b its2.toArray n2 hlong (by rw [size_toArray];omega) (by omega)) ⟨e,e2,?_⟩
 refine ⟨.non,_,I.lset (its':=its++its2) hH e (by simp) (r.append r2) ?_,rfl,q⟩;rw [length_append];omega
def rCat:R2:=fun x y H Q=>∃ l b xs zs,x=.ref l∧y=.ref b∧H l=some (.lst xs)∧H b=some (.lst zs)∧xs.length+zs.length≤sizeLine∧∀ p,H p=none→Q (.ref p) (upd H p (.lst (xs++zs)))
theorem op_cat:OpR X (binaryOp .Add) rCat:=by
 intro pins s σ H x y v u Q I rx ry h;obtain ⟨l,b,xs,zs,rfl,rfl,hH,hB,hz,q⟩:=h
 cases rx
 cases ry
 obtain ⟨z,its,n,r,hl,e⟩:=I.lstM hH;obtain ⟨z2,its2,n2,r2,hl2,e2⟩:=I.lstM hB;refine PySem.P.add_list e e2 ?_ (by rw [size_toArray,size_toArray];omega);have ea:its.toArray++its2.toArray=(its++its2).toArray:=by simp
 rw [ea];exact ⟨.ref _,_,I.lnew (t':=s.toks) (r.append r2) (by rw [length_append];omega),rfl,q _ I.fresh⟩
end
section
variable {prog:Program} {w:World} {A:Around} {E:Value→Shared→Prop} {s:Shared}
theorem ziw {a c n:Nat} (hac:a≤c) (hc:c≤n):sliceBounds (some (a:Int)) (some (c:Int)) none n=((a:Int),(c:Int),1):=by
 simp only [sliceBounds,Option.getD_none];have h1:¬((a:Int) < 0):=by omega
 have h2:¬((c:Int) < 0):=by omega
 simp only [h1,h2,if_false,show (1:Int) > 0 by decide,if_true]
 congr 1
 ·omega
 ·congr 1;omega
set_option maxRecDepth 100000 in
theorem zkF {l b sl:Addr} {items new:Array Value} {n n2:Nat} {vl vu:Value} {a c:Nat} {Q:Unit→Shared→Prop}
  (e:s.heap.get? l=some { cls:=.type "list",data:=.seq items n }) (e2:s.heap.get? b=some { cls:=.type "list",data:=.seq new n2 }) (hne:l≠b)
  (hs:s.heap.IsSliceOf sl vl vu .none) (pl:IsPart vl (some (a:Int))) (pu:IsPart vu (some (c:Int))) (hac:a≤c) (hc:c≤items.size)
  (hsz:items.size+new.size≤sizeLine) (h:Q () { s with heap:=s.heap.update l (Obj.mapSeq fun xs=>xs.extract 0 a++new++xs.extract c xs.size) }) :
  wpAny (model prog w) A (setItem (.ref l) (.ref sl) (.ref b)) Q E s:=by
 have hl:s.heap.IsList l items:=PySem.IsL.isList e;have hb:s.heap.IsList b new:=PySem.IsL.isList e2;obtain ⟨os,hos,hcs,hds⟩:=id hs;have hTs:s.TypeIs (.ref sl) "slice":=⟨os,hos,hcs⟩
 have hstep:¬((rawPart none == rawInt 0)=true):=Bool.false_ne_true;have hsame:Builtin.List.listSameRef (.ref l) (.ref b)=false:=by
  unfold Builtin.List.listSameRef;exact beq_eq_false_iff_ne.mpr hne
 have hmax:(max (a:Int) (c:Int)).toNat=c:=by omega
 have hz':((fun xs:Array Value=>xs.extract 0 a++new++xs.extract c xs.size) items).size≤sizeLine+1:=by
  simp only [Array.size_append,Array.size_extract];omega
 unfold setItem
 try with_reducible refine wpAny_holding ?_
 first | refine wpAny_bind (wpAny_pure ?_) | skip
 refine wpAny_bind (wpAny_sequenceKey hl.typeIs (by decide) ?_);refine wpAny_bind (wpAny_callSpecial?_slot (name:=Str.ofString "__setitem__") hl.typeIs slot_list_setitem
  (wpAny_call_entry slot_list_setitem hl.typeIs entry_list_setitem ?_ (args_list_setitem _ _ _)))
 show wpAny _ _ (Builtin.List.listSubscript? (.ref sl) >>= _) _ _ s;refine wpAny_bind ?_;unfold Builtin.List.listSubscript?;refine wpAny_bind (wpAny_specialOf hTs slice_no_index ?_);simp only [Option.isNone_none,if_true];refine wpAny_pure ?_;show wpAny _ _ (typeOf (.ref sl) >>= _) _ _ s;refine wpAny_bind (wpAny_typeOf hTs ?_)
 first
  | rw [if_neg (by decide)]
  | refine PySem.W.KFB.if_not (by decide) ?_
 rw [listSliceParts_eq];refine wpAny_bind (wpAny_bind (wpAny_field hos hds (x:=.none) rfl (wpAny_bind (wpAny_listPart .none ?_))));rw [if_neg hstep];refine wpAny_bind (wpAny_field hos hds (x:=vl) rfl (wpAny_bind (wpAny_listPart pl ?_)));refine wpAny_bind (wpAny_field hos hds (x:=vu) rfl (wpAny_bind (wpAny_listPart pu (wpAny_pure ?_))))
 first
  | simp only [hsame,Bool.false_eq_true,if_false]
  | refine PySem.W.KFB.if_not hsame ?_
  | (dsimp only
     rw [if_neg (by rw [hsame];exact Bool.false_ne_true)])
 refine wpAny_bind (m:=Builtin.List.listAllItems (.ref b) "must assign iterable to extended slice") ?_;unfold Builtin.List.listAllItems;refine wpAny_bind (wpAny_typeOf hb.typeIs ?_)
 first
  | refine PySem.W.KFB.if_so (by decide) ?_
  | rw [if_pos (by decide)]
  | simp only [beq_self_eq_true,Bool.true_or,if_true]
 unfold Builtin.List.listItems;refine wpAny_bind (wpAny_seqItems e2 rfl (wpAny_pure ?_));refine wpAny_bind (wpAny_bind (wpAny_seqItems e rfl (wpAny_pure ?_)));refine wpAny_bind (wpAny_of_eq ((sliceIndices_raw (some (a:Int)) (some (c:Int)) none items.size (by simp)).trans (congrArg (pure:Int×Int×Int→Sem (Int×Int×Int)) (ziw hac hc))) ?_);show wpAny _ _ (if ((1:Int) == 1)=true then _ else _) _ _ s;rw [if_pos (by decide)];refine wpAny_bind (wpAny_rule ?_)
 first
  | simp only [zfS hsz,Bool.false_eq_true,if_false]
  | refine PySem.W.KFB.if_not (zfS hsz) ?_
 first | refine wpAny_bind (wpAny_pure ?_) | skip
 show wpAny _ _ (updateSeq l (fun xs=>xs.extract 0 ((a:Int)).toNat++new++xs.extract (max (a:Int) (c:Int)).toNat xs.size) >>= _) _ _ s;rw [hmax,Int.toNat_natCast];refine wpAny_bind (wpAny_updateSeq (hz:=Nat.le_trans (le_add_right _ _) hsz) (_hz':=hz') e rfl ?_);refine wpAny_bind (wpAny_letGo ?_)
 first
  | exact wpAny_bind (wpAny_pure (wpAny_pure ⟨.none,rfl,wpAny_pure h⟩))
  | exact wpAny_pure ⟨.none,rfl,wpAny_pure h⟩
end
section
variable {X:Cx}
end
end L2
namespace Att
open PySem PySem.W PySem.Calls PyProof.Rows
theorem zeK {P:Params} {h:Heap}:∀ (ns:List Int) (vs:List Value),WellAll P h vs (ns.map WData.int)→IntsAre vs ns:=by
 intro ns
 induction ns with
 | nil =>
   intro vs w;rw [map_nil] at w
   cases w
   exact .nil
 | cons n ns ih =>
   intro vs w;rw [map_cons] at w
   cases w with
   | cons a b =>
     cases a
     exact .cons _ _ (ih _ b)
theorem zjt {l:OpenLaw} {n:Nat} (hn:l.most=some n) {P:Params} {h:Heap} {args:List WData} {vals:List Value}
  (hpre:l.row.toRowW.claim.pre args=true) (hwl:WellAll P h vals args) :
  ∃ a vs ns,vals=[Value.ref a]∧args=[WData.list (ns.map WData.int)]∧h.get? a=some { cls:=.type "list",data:=.seq vs.toArray }∧IntsAre vs ns∧ns.length≤n:=by
 have hsh:WShape.hasAll [] args [.list .int]=true:=(pre_splitW hpre).1;have hc:l.pre.holds [] { args:=args }=true:=(pre_splitW hpre).2;obtain ⟨d,r,rfl,h1,h2⟩:=hasAllW_cons hsh;obtain rfl:=hasAllW_nil h2;obtain ⟨xs,rfl,h3⟩:=hasW_list h1;obtain ⟨ns,rfl⟩:=items_int h3;have hlen:ns.length≤n:=by
  unfold OpenLaw.pre at hc;have h4:(WTm.not (.lt (.lit (.int (n:Int))) (.len (.arg 0)))).holds [] { args:=[.list (ns.map .int)] }=true:=by
   have h4:=(holds_andW hc).1;rw [hn] at h4;exact h4
  have h5:=condW_of h4 (w_not (w_lt w_lit (w_len_list (w_arg rfl))));rw [length_map] at h5;refine Nat.le_of_not_lt fun q=>?_;have q':(n:Int) < ((ns.length:Nat):Int):=by omega
  first
   | (rw [decide_eq_true q'] at h5;exact absurd h5 (by decide))
   | (simp at h5;omega)
 cases hwl with
 | cons w1 w2 =>
   cases w2
   cases w1 with
   | list ho hall=>exact ⟨_,_,ns,rfl,rfl,ho,zeK ns _ hall,hlen⟩
theorem zju (l:OpenLaw) (args:List WData):l.row.toRowW.claim.post args (.bool true) args=true :=
 postW_of (r:=l.row.toRowW) (X:=(true == true))
  (show WShape.has [] (.bool true) .bool=true by first | rfl | decide | simp [WShape.has,WShape.arms,WShape.armsAll])
  (show (WTm.eq .res (.lit (.bool true))).value [] { args:=args,res:=some (.bool true),after:=args }=some (.bool (true == true)) from w_eq_bool (w_res rfl) w_lit) rfl
theorem attach_call {l:OpenLaw} {n:Nat} {q:Program} {loose:List Str} {XP:(Str→Option Value)→Heap→Prop} {YP:World→Heap→Prop} {d:DefRec}
  (hn:l.most=some n) (hdf:d.params.defaults=[])
  (call:∀ (w:World) (s₀ s₁:Shared) (mg mb:Str→Option Value) (fa:Addr) (o:Obj) (pm cd doc:Value) (a:Addr) (vs:List Value) (ns:List Int),
   Ground q loose [] XP w s₀ mg mb s₁.heap→YP w s₁.heap →
   s₁.heap.get? fa=some o→o.data=.func (docDef d.name d.params d.body d.scope pm cd doc)→s₁.heap.CodeRec cd d.name→mg d.name=some (.ref fa) →
   s₁.heap.get? a=some { cls:=.type "list",data:=.seq vs.toArray }→IntsAre vs ns→ns.length≤n→s₁.gens=#[] →
   codeAny (model l.prog w) callerA (.call (.ref fa) ⟨[.ref a],[]⟩) (fun r s'=>r=.ok (.ret (.bool true))∧OldK s₁.heap s'.heap∧s'.os=s₁.os∧AllBare s'.gens) s₁) :
  WalkO q loose XP YP l.row.toRowW d [] (fun f vs=>PySem.call f vs):=by
 intro w s₀ s₁ mg mb G Y fa o pm cd doc dV kV ho hd hcd hD hmg hg args vals as hpre hlay hrd hwl hlo;obtain rfl:dV=.none:=Dflts.none hD hdf;obtain rfl:kV=.none:=Dflts.noKw hD;obtain ⟨a,vs,ns,rfl,rfl,hobj,hints,hlen⟩:=zjt hn hpre hwl;refine enter_call (codeAny_mono (call w s₀ s₁ mg mb fa o pm cd doc a vs ns G Y ho (fd_plain hd) hcd hmg hobj hints hlen hg) fun r s' hq=>?_);obtain ⟨rfl,h2,h3,h4⟩:=hq;exact ⟨.inl ⟨.bool true,.bool true,[],rfl,fun _=>rfl,.bool true,zju l _,fun _=>⟨List.Pairwise.nil,fun _ hm=>(nomatch hm)⟩⟩,h2,h3,h4⟩
section
variable {prog:Program} {w:World} {A:Around} {E:Value→Shared→Prop} {s:Shared} {K:Frag}
end
end Att
namespace L2
open PySem PySem.Spec PyProof.Rows
theorem vals_ints:∀ {vs:List Value} {ns:List Int},IntsAre vs ns→Vals (ns.map V.int) vs
 | _,_,.nil=>.nil
 | _,_,.cons n t h=>.cons ⟨t,rfl⟩ (vals_ints h)
def Only (H:Hp):Prop:=∀ b,H b=none∨∃ o xs,H b=some (.frz o (.lst xs))
theorem zkG {P:Program} {w:World} {K:PySem.W.Frag} {mg mb:Str→Option Value} {CX:CXT} {k:Nat} {fa a:Addr} {fd:FuncData} {x:Str} {sp:Sp} {s₁:Shared} {vs:List Value} {ns:List Int}
  (KX:K.In s₁.heap) (hns:s₁.heap.Ns mainGlobals mg) (hb:s₁.heap.Ns builtinsNs mb) (hbb:∀ x:Str,x≠"__name__"→mb x=bootBuiltins x) (hlim:s₁.heap.NoLimit) (hg:s₁.gens=#[])
  (ha:s₁.heap.get? a=some { cls:=.type "list",data:=.seq vs.toArray }) (hi:IntsAre vs ns) (hl:ns.length≤sizeLine) (hr:Room k callerA)
  (F:∀ base:Heap,K.In base→base.Ns mainGlobals mg→FnOk P w K mg base CX k fa fd [x] sp) (hbind:∀ (s:Shared) (u:Value),BindsTo s fd ⟨[u],[]⟩ [(x,u)])
  (hsp:∀ H:Hp,Only H→SqL K H a (ns.map V.int)→sp [.ref a] H (fun v _=>v=.bl true) fun _ _ _=>False)
  (hCX:∀ H e s',CX [] H s₁ (fun _ _ _=>False) e s'→False) :
  codeAny (model P w) callerA (.call (.ref fa) ⟨[.ref a],[]⟩) (fun r s'=>r=.ok (.ret (.bool true))∧OldK s₁.heap s'.heap∧s'.os=s₁.os∧AllBare s'.gens) s₁:=by
 have rv:=vals_ints hi;have lenV:=hi.length;have core:∀ H:Hp,Only H→SqL K H a (ns.map V.int)→HOk P w H s₁.heap→(∀ b,H b≠none→b=a)→(H a≠none→K.lookup a=none) →
   codeAny (model P w) callerA (.call (.ref fa) ⟨[.ref a],[]⟩) (fun r s'=>r=.ok (.ret (.bool true))∧OldK s₁.heap s'.heap∧s'.os=s₁.os∧AllBare s'.gens) s₁:=by
  intro H hO hS hok hA hK;have base_of:∀ {b:Addr} {o:Obj},s₁.heap.get? b=some o→H b=none→(hidT s₁.heap H).get? b=some o:=fun e n=>zkx e n;have noA:∀ {b:Addr} {o:Obj} {es:Array DictEntry} {ep:Nat},s₁.heap.get? b=some o→o.data=.dict es ep→H b=none:=fun {b o es ep} e d=>by
   cases q:H b with
   | none=>rfl
   | some u =>
     have e':b=a:=hA b (by rw [q];simp);subst e';rw [ha] at e;cases e
     have d':Data.seq vs.toArray _=Data.dict es ep:=d
     cases d'
  have nsK:∀ {b:Addr} {m:Str→Option Value},s₁.heap.Ns b m→(hidT s₁.heap H).Ns b m:=fun {b m} ⟨o,es,ep,e,d,r⟩=>⟨o,es,ep,base_of e (noA e d),d,r⟩
  have hKb:K.In (hidT s₁.heap H):=fun b o e=>base_of (KX b o e) (by
   cases q:H b with
   | none=>rfl
   | some u =>
     have e':b=a:=hA b (by rw [q];simp);subst e';rw [hK (by rw [q];simp)] at e;cases e)
  have hM:Mod K mg (hidT s₁.heap H):=⟨hKb,nsK hns,⟨mb,nsK hb,hbb⟩,let ⟨mc,h1,h2⟩:=hlim;⟨mc,nsK h1,h2⟩⟩
  have e0:Env0 P w K mg (hidT s₁.heap H) callerA [] s₁ H:=⟨rfl,hM,fun b o e=>zlH e,Nat.le_of_eq (zjc _ _),trivial,fun b hb=>absurd (show b∈([]:List Addr) from hb) (by simp),hok,.of_eq hg⟩
  refine codeAny_mono ((F _ hKb (nsK hns)).run callerA [] s₁ H ⟨[.ref a],[]⟩ [.ref a] [.ref a] _ _ hr e0 (hbind s₁ (.ref a)) (.cons rfl .nil) (hsp H hO hS)) fun r s' h=>?_
  cases r with
  | error e=>exact (hCX H e s' h).elim
  | ok fl =>
    cases fl with
    | next=>exact False.elim h
    | brk=>exact False.elim h
    | cont=>exact False.elim h
    | ret u =>
      obtain ⟨v,H',os,bare,un,hok',r',q⟩:=h;have q':v=.bl true:=q;subst q';obtain rfl:u=Value.bool true:=r';refine ⟨rfl,OldK.of_keep fun b o e=>?_,os,bare⟩
      cases q:H b with
      | none=>exact un.keep b o e q (by intro z;exact absurd (show b∈([]:List Addr) from z) (by simp)) (by simp)
      | some u =>
        rcases hO b with z | ⟨ob,xs,z⟩
        ·rw [q] at z;cases z
        ·have z2:=un.frzs b ob _ z;obtain ⟨e1,_⟩:=hok b _ z;obtain ⟨e2,_⟩:=hok' b _ z2;rw [e] at e1;cases e1
         exact e2
 cases hk:K.lookup a with
 | some o =>
   have e:=KX a o hk;rw [ha] at e
   cases e
   refine core (fun _=>none) (fun _=>.inl rfl) (.inr ⟨_,vs.toArray,_,hk,rfl,rfl,rfl,by rw [size_toArray,lenV];exact hl,by simpa using rv⟩) (fun b u z=>by have z':(none:Option HO)=some u:=z;cases z') (fun b z=>absurd rfl z) fun z=>absurd rfl z
 | none =>
   refine core (fun b=>if b=a then some (.frz { cls:=.type "list",data:=.seq vs.toArray } (.lst (ns.map V.int))) else none) (fun b=>?_) (.inl (.inr ⟨{ cls:=.type "list",data:=.seq vs.toArray },if_pos rfl⟩)) (fun b u z=>?_) (fun b z=>?_) fun _=>hk
   ·by_cases hb:b=a
    ·exact .inr ⟨_,_,if_pos hb⟩
    ·exact .inl (if_neg hb)
   ·by_cases hb:b=a
    ·have z':=(if_pos hb).symm.trans z
     cases z'
     subst hb;exact ⟨ha,by rw [length_map];exact hl,vs,_,rv,ha⟩
    ·have z':=(if_neg hb).symm.trans z
     cases z'
   ·by_cases hb:b=a
    ·exact hb
    ·exact absurd (if_neg hb) z
end L2
namespace L2
open PySem PySem.Spec PyProof.Rows
theorem zlW {l:PySem.W.OpenLaw} {n k:Nat} {q:Program} {loose:List Str} {XP:(Str→Option Value)→Heap→Prop} {YP:World→Heap→Prop} {d:DefRec} {K:Params→PySem.W.Frag} {CX:World→CXT} {sp:World→Sp} {x:Str}
  (hn:l.most=some n) (hn2:n≤sizeLine) (hdf:d.params.defaults=[]) (hr:Room k callerA)
  (hY:∀ (w:World) (h:Heap),YP w h→(K w.params).In h)
  (F:∀ (w:World) (mg:Str→Option Value) (fa:Addr) (h:Heap),(K w.params).In h→h.Ns mainGlobals mg→mg d.name=some (.ref fa) →
   ∃ fd:FuncData,(∀ (s:Shared) (u:Value),BindsTo s fd ⟨[u],[]⟩ [(x,u)]) ∧
    ∀ base:Heap,(K w.params).In base→base.Ns mainGlobals mg→FnOk l.prog w (K w.params) mg base (CX w) k fa fd [x] (sp w))
  (hsp:∀ (w:World) (H:Hp) (a:Addr) (ns:List Int),ns.length≤n→Only H→SqL (K w.params) H a (ns.map V.int)→sp w [.ref a] H (fun v _=>v=.bl true) fun _ _ _=>False)
  (hCX:∀ (w:World) (H:Hp) (s:Shared) (e:Value) (s':Shared),CX w [] H s (fun _ _ _=>False) e s'→False) :
  PySem.W.WalkO q loose XP YP l.row.toRowW d [] (fun f vs=>PySem.call f vs):=by
 refine Att.attach_call hn hdf fun w s₀ s₁ mg mb fa o pm cd doc a vs ns G Y ho hd hcd hmg hobj hints hlen hg=>?_;have KX:=hY w _ Y;obtain ⟨fd,hb,hF⟩:=F w mg fa _ KX G.T.g hmg;exact zkG KX G.T.g G.T.b G.T.builtins G.T.nolimit hg hobj hints (Nat.le_trans hlen hn2) hr hF hb (fun H hO hS=>hsp w H a ns hlen hO hS) fun H e s'=>hCX w H s₁ e s'
end L2
namespace L2
open PySem PySem.Spec PyProof.Rows
def za3 (s:Stmt) (j:Nat):Stmt:=match s with
 | .ClassDef _ _ _ body _ _ _ _ _ _ _=>body.getD j (.Pass ⟨0,0,0,0⟩)
 | _=>.Pass ⟨0,0,0,0⟩
def zan (s:Stmt):Arguments:=match s with
 | .FunctionDef _ a _ _ _ _ _ _ _ _=>a
 | _=>{ posonlyargs:=[],args:=[],vararg:=none,kwonlyargs:=[],kw_defaults:=[],kwarg:=none,defaults:=[] }
def zam (s:Stmt):List Stmt:=match s with
 | .FunctionDef _ _ b _ _ _ _ _ _ _=>b
 | _=>[]
def zac (s:Stmt):Scope:=match s with
 | .FunctionDef _ _ _ _ _ _ sc _ _ _=>sc
 | _=>{ kind:=.function,names:=[],isGenerator:=false,isCoroutine:=false }
abbrev CX0:CXT:=fun _ _ _ _ _ _=>False
abbrev E0:XK:=fun _ _ _=>False
theorem zav {X:Cx}:zee CX0 X E0:=fun _ _ _ _ _ _ _ h=>h.elim
structure Fun (K:PySem.W.Frag) (x qual:Str) (st:Stmt) (f:Addr) (fd:FuncData):Prop where
 ex:∃ (oc:Value) (od:Option Addr) (kV doc pm:Value) (an:Option Addr) (cdv ct:Value) (osl:Array (Option Value)),
  fd=fnOf x qual (zan st) (zam st) (zac st) .none kV doc pm an cdv ct∧K.lookup f=some ⟨oc,od,.func fd,osl⟩∧codeIn K cdv qual=true
 kp:keepIn K (.ref f)=true
section
variable {P:Program} {w:World} {K:PySem.W.Frag} {mg:Str→Option Value} {base:Heap}
theorem Fun.ok {x qual:Str} {st:Stmt} {f:Addr} {fd:FuncData} {N ps:List Str} {k:Nat} {sp:Sp} (F:Fun K x qual st f fd) (S:zao N ps (zac st)) (len:∀ vs H Q E,sp vs H Q E→vs.length=ps.length)
  (hbody:∀ (cdv:Value) (A:Around) (outer:List Env) (s:Shared) (H:Hp) (vs:List V) (Q:VK) (E:XK),Room k (A.deeper (envOfC qual (zac st) s.heap.objs.size f cdv))→sp vs H Q E →
   ∃ t,PSs (cxOf CX0 P w K mg base N qual (zac st) f cdv A outer s H E).nox (zam st) t∧t { nx:=fun _ H'=>Q .non H',rt:=Q } (start N vs) H):FnOk P w K mg base CX0 (k+1) f fd ps sp:=by
 obtain ⟨oc,od,kV,doc,pm,an,cdv,ct,osl,rfl,lk,hcd⟩:=F.ex;refine zn6 lk hcd S len fun A outer s H vs Q E hr hsp=>?_;obtain ⟨t,h,q⟩:=hbody cdv A outer s H vs Q E hr hsp;exact ⟨t,h.nox,q⟩
theorem Fun.binds {x qual:Str} {st:Stmt} {f:Addr} {fd:FuncData} {ps:List Str} (F:Fun K x qual st f fd)
  (h:∀ (kV doc pm:Value) (an:Option Addr) (cdv ct:Value) (us:List Value),us.length=ps.length→bindArgs (fnOf x qual (zan st) (zam st) (zac st) .none kV doc pm an cdv ct) ⟨us,[]⟩=pure (ps.zip us)):Binds K fd ps []:=by
 obtain ⟨oc,od,kV,doc,pm,an,cdv,ct,osl,rfl,lk,hcd⟩:=F.ex;exact .all (h kV doc pm an cdv ct)
theorem zaA {x qual:Str} {st:Stmt} {f:Addr} {oc:Value} {od an:Option Addr} {osl:Array (Option Value)} {kV doc pm cdv ct:Value} (l:K.lookup f=some ⟨oc,od,.func (fnOf x qual (zan st) (zam st) (zac st) .none kV doc pm an cdv ct),osl⟩)
  (c:codeIn K cdv qual=true) (k:keepIn K (.ref f)=true):Fun K x qual st f (fnOf x qual (zan st) (zam st) (zac st) .none kV doc pm an cdv ct):=⟨⟨oc,od,kV,doc,pm,an,cdv,ct,osl,rfl,l,c⟩,k⟩
end
theorem zdk {A:Around} {k:Nat} (hr:Room k A):A.units+1 < cLine:=Nat.lt_of_le_of_lt (Nat.add_le_add_left (by decide:1≤64) _) hr.units
theorem za0 {n:Nat} (h:n≤1000):n < sizeLine:=Nat.lt_of_le_of_lt h (by decide)
section
variable {X:Cx}
theorem pv (i:Nat) {x:Str} {pos:Pos} (hN:X.N[i]? = some x:=by rfl) (hv:Vis X.env.scope x:=by first | exact Or.inl rfl | exact Or.inr (Or.inl rfl) | exact Or.inr (Or.inr rfl)) (hd:(x == ("__debug__" : Str))=false:=by decide)
  (hcd:(x == ("__classdict__" : Str))=false:=by decide):PE X (.Name x pos) (tVar i):=zmG hN hv hd hcd
end
theorem iteF {A B:Prop} (h:B):if false=true then A else B:=by
 rw [if_neg Bool.false_ne_true];exact h
theorem iteT {A B:Prop} (h:A):if true=true then A else B:=by
 rw [if_pos rfl];exact h
def Same (H H':Hp):Prop:=∀ b o,H b=some o→H' b=some o
theorem Same.refl (H:Hp):Same H H:=fun _ _ h=>h
theorem Same.trans {H H1 H2:Hp} (a:Same H H1) (b:Same H1 H2):Same H H2:=fun c o h=>b c o (a c o h)
theorem Same.free {H H':Hp} (e:Same H H') {l:Addr} (h:H' l=Option.none):H l=Option.none:=by
 cases q:H l with
 | none=>rfl
 | some o =>
   rw [e l o q] at h
   cases h
theorem Same.seq {K:PySem.W.Frag} {H H':Hp} {a:Addr} {xs:List V} (e:Same H H') (h:SqL K H a xs):SqL K H' a xs:=by
 rcases h with (h | ⟨o,h⟩) | h
 ·exact .inl (.inl (e _ _ h))
 ·exact .inl (.inr ⟨o,e _ _ h⟩)
 ·exact .inr h
end L2
namespace L2
open PySem PySem.Spec PyProof.Rows
section
variable {κ:Type} [DecidableEq κ]
def valV (kvs:List (κ×V)) (k:κ):Option V:=(kvs.find? fun kv=>decide (kv.1=k)).map (·.2)
def putK (kvs:List (κ×V)) (k:κ) (v:V):List (κ×V) :=
 if (kvs.any fun kv=>decide (kv.1=k))=true then kvs.map (fun kv=>if kv.1=k then (kv.1,v) else kv) else kvs++[(k,v)]
theorem zbw {p:κ×V} {r:List (κ×V)} {k:κ} (e:p.1=k):valV (p::r) k=some p.2:=by simp [valV,find?_cons,e]
theorem zbx {p:κ×V} {r:List (κ×V)} {k:κ} (e:¬p.1=k):valV (p::r) k=valV r k:=by simp [valV,find?_cons,e]
theorem zdJ (k:κ):∀ kvs:List (κ×V),(kvs.any fun kv=>decide (kv.1=k))=(valV kvs k).isSome
 | []=>rfl
 | p::r=>by
   rw [any_cons]
   by_cases e:p.1=k
   ·simp only [zbw e,decide_eq_true e,Bool.true_or,Option.isSome_some]
   ·rw [zbx e,decide_eq_false e,Bool.false_or];exact zdJ k r
theorem zhU (k j:κ) (y:V):∀ kvs:List (κ×V),valV (kvs.map fun kv=>if kv.1=k then (kv.1,y) else kv) j=(valV kvs j).map fun x=>if j=k then y else x
 | []=>rfl
 | p::r=>by
   have ih:=zhU k j y r;rw [map_cons]
   by_cases h:p.1=k
   ·rw [if_pos h]
    by_cases e:p.1=j
    ·rw [zbw (p:=(p.1,y)) e,zbw e,Option.map_some,if_pos (e.symm.trans h)]
    ·rw [zbx (p:=(p.1,y)) e,zbx e,ih]
   ·rw [if_neg h]
    by_cases e:p.1=j
    ·rw [zbw (p:=p) e,zbw e,Option.map_some,if_neg (fun z=>h (e.trans z))]
    ·rw [zbx (p:=p) e,zbx e,ih]
theorem zgq (k j:κ) (y:V):∀ kvs:List (κ×V),valV kvs k=none→valV (kvs++[(k,y)]) j=if j=k then some y else valV kvs j
 | [],_=>by
   by_cases e:k=j
   ·rw [if_pos e.symm];exact zbw (p:=(k,y)) e
   ·rw [if_neg (fun z=>e z.symm)];exact zbx (p:=(k,y)) e
 | p::r,hn=>by
   rw [List.cons_append];have hk:¬p.1=k:=fun z=>by rw [zbw z] at hn;cases hn
   rw [zbx hk] at hn;have ih:=zgq k j y r hn
   by_cases e:p.1=j
   ·rw [zbw e,zbw e,if_neg (fun z=>hk (e.trans z))]
   ·rw [zbx e,zbx e,ih]
theorem zkH (kvs:List (κ×V)) (k j:κ) (y:V):valV (putK kvs k y) j=if j=k then some y else valV kvs j:=by
 unfold putK
 by_cases a:(kvs.any fun kv=>decide (kv.1=k))=true
 ·rw [if_pos a,zhU];rw [zdJ] at a
  by_cases e:j=k
  ·obtain ⟨x,hx⟩:=Option.isSome_iff_exists.mp a;rw [if_pos e,e,hx,Option.map_some,if_pos rfl]
  ·rw [if_neg e]
   cases valV kvs j with
   | none=>rfl
   | some x=>rw [Option.map_some,if_neg e]
 ·rw [if_neg a];refine zgq k j y kvs ?_;rw [zdJ] at a
  cases q:valV kvs k with
  | none=>rfl
  | some x=>rw [q] at a;exact (a rfl).elim
theorem zdv (kvs:List (κ×V)) (k:κ) (v:V):(putK kvs k v).length≤kvs.length+1:=by
 unfold putK;split
 ·rw [length_map];omega
 ·rw [length_append,length_cons,length_nil];omega
theorem zkI {kvs:List (κ×V)} {k:κ} (v:V) (h:valV kvs k=none):putK kvs k v=kvs++[(k,v)]:=by
 unfold putK;rw [zdJ,h];exact if_neg (by decide)
theorem RelO.isSome_eq {o:Option V} {u:Option Value} (r:RelO o u):o.isSome=u.isSome:=by
 cases o with
 | none=>cases u with
   | none=>rfl
   | some _=>exact (show False from r).elim
 | some _=>cases u with
   | none=>exact (show False from r).elim
   | some _=>rfl
theorem KV.val {kvs:List (κ×V)} {vs:List (κ×Value)} (r:KV kvs vs) (k:κ):RelO (valV kvs k) (valueAt vs k):=by
 unfold KV at r
 induction r with
 | nil=>exact True.intro
 | @cons p q ps qs h t ih =>
   obtain ⟨h1,h2⟩:=h
   by_cases e:p.1=k
   ·have e':q.1=k:=h1.symm.trans e;have b:valueAt (q::qs) k=some q.2:=by simp [valueAt,find?_cons,e']
    rw [zbw e,b];exact h2
   ·have e':¬q.1=k:=fun z=>e (h1.trans z);have b:valueAt (q::qs) k=valueAt qs k:=by simp [valueAt,find?_cons,e']
    rw [zbx e,b];exact ih
theorem KV.any {kvs:List (κ×V)} {vs:List (κ×Value)} (r:KV kvs vs) (k:κ):(kvs.any fun kv=>decide (kv.1=k))=vs.any fun kv=>decide (kv.1=k):=by
 unfold KV at r
 induction r with
 | nil=>rfl
 | cons h t ih=>rw [any_cons,any_cons,ih,h.1]
theorem KV.repl {kvs:List (κ×V)} {vs:List (κ×Value)} (r:KV kvs vs) (k:κ) {y:V} {u:Value} (ry:RelV y u) :
  KV (kvs.map fun kv=>if kv.1=k then (kv.1,y) else kv) (vs.map fun kv=>if kv.1=k then (kv.1,u) else kv):=by
 unfold KV at r ⊢
 induction r with
 | nil=>exact .nil
 | @cons p q ps qs h t ih =>
   rw [map_cons,map_cons];refine .cons ?_ ih;obtain ⟨h1,h2⟩:=h
   by_cases e:p.1=k
   ·rw [if_pos e,if_pos (h1.symm.trans e)];exact ⟨h1,ry⟩
   ·rw [if_neg e,if_neg (fun z=>e (h1.trans z))];exact ⟨h1,h2⟩
theorem KV.put {kvs:List (κ×V)} {vs:List (κ×Value)} (r:KV kvs vs) (k:κ) {y:V} {u:Value} (ry:RelV y u):KV (putK kvs k y) (stored vs k u):=by
 unfold putK stored;rw [r.any k]
 by_cases e:(vs.any fun kv=>decide (kv.1=k))=true
 ·rw [if_pos e,if_pos e];exact r.repl k ry
 ·rw [if_neg e,if_neg e];exact Paired.snoc r ⟨rfl,ry⟩
theorem KV.length {kvs:List (κ×V)} {vs:List (κ×Value)} (r:KV kvs vs):kvs.length=vs.length:=Paired.length r
end
theorem zjv {P:Program} {w:World} {k:Key} {u:Value} (r:RelV (kV k) u):(zbI P w).is k u=true:=by
 cases k with
 | inl i=>obtain ⟨t,e⟩:=(show ∃ t,u=Value.int i t from r);subst e;exact zg7 P w i t
 | inr x=>obtain ⟨t,e⟩:=(show ∃ t,u=Value.str x t from r);subst e;exact zg8 P w x t
theorem zgr {P:Program} {w:World}:∀ {ks:List Key} {us:List Value},Vals (ks.map kV) us→ItemsAre (zbI P w) ks us
 | [],_,r=>by rw [map_nil] at r;cases r;exact .nil
 | k::ks,_,r=>by
   rw [map_cons] at r
   cases r with
   | cons h t=>exact .cons (zjv h) (zgr t)
abbrev KT (H:Hp):List (List Key×V)→List (List Key×Addr×Value)→Prop:=Paired fun p q=>p.1=q.1∧H q.2.1=some (.tup (p.1.map kV))∧RelV p.2 q.2.2
theorem KT.val {H:Hp} {kvs:List (List Key×V)} {xs:List (List Key×Addr×Value)} (r:KT H kvs xs) (k:List Key):RelO (valV kvs k) ((atKey xs k).map (·.2)):=by
 induction r with
 | nil=>exact True.intro
 | @cons p q ps qs h t ih =>
   obtain ⟨h1,_,h2⟩:=h
   by_cases e:p.1=k
   ·have e':q.1=k:=h1.symm.trans e;have b:atKey (q::qs) k=some q.2:=by simp [atKey,find?_cons,e']
    rw [zbw e,b];exact h2
   ·have e':¬q.1=k:=fun z=>e (h1.trans z);have b:atKey (q::qs) k=atKey qs k:=by simp [atKey,find?_cons,e']
    rw [zbx e,b];exact ih
theorem KT.repl {H:Hp} {kvs:List (List Key×V)} {xs:List (List Key×Addr×Value)} (r:KT H kvs xs) (k:List Key) {y:V} {u:Value} (ry:RelV y u) :
  KT H (kvs.map fun kv=>if kv.1=k then (kv.1,y) else kv) (xs.map (putAt k u)):=by
 induction r with
 | nil=>exact .nil
 | @cons p q ps qs h t ih =>
   rw [map_cons,map_cons];refine .cons ?_ ih;obtain ⟨h1,h2,h3⟩:=h;unfold putAt
   by_cases e:p.1=k
   ·rw [if_pos e,if_pos (h1.symm.trans e)];exact ⟨h1,h2,ry⟩
   ·rw [if_neg e,if_neg (fun z=>e (h1.trans z))];exact ⟨h1,h2,h3⟩
theorem KT.put {H:Hp} {kvs:List (List Key×V)} {xs:List (List Key×Addr×Value)} (r:KT H kvs xs) (k:List Key) {b:Addr} {y:V} {u:Value} (hb:H b=some (.tup (k.map kV))) (ry:RelV y u) :
  KT H (putK kvs k y) (storedH xs k b u):=by
 have e:(kvs.any fun kv=>decide (kv.1=k))=(atKey xs k).isSome:=by
  rw [zdJ,(r.val k).isSome_eq,Option.isSome_map]
 unfold putK storedH;rw [e]
 by_cases q:(atKey xs k).isSome=true
 ·rw [if_pos q,if_pos q];exact r.repl k ry
 ·rw [if_neg q,if_neg q];exact Paired.snoc r ⟨rfl,hb,ry⟩
theorem KT.keeps {H H':Hp} {kvs:List (List Key×V)} {xs:List (List Key×Addr×Value)} (r:KT H kvs xs) (ht:∀ b ys,H b=some (.tup ys)→H' b=some (.tup ys)):KT H' kvs xs :=
 Paired.mapP r fun _ _ z=>⟨z.1,ht _ _ z.2.1,z.2.2⟩
section
variable {P:Program} {w:World} {H:Hp} {h:Heap} {a:Addr}
theorem zmV {u:HO} (ok:HOk P w H h) (e:Rd H a u):zbV P w H h a u:=e.ok ok
theorem zjw {kvs:List (Key×V)} (ok:HOk P w H h) (e:Rd H a (.dK kvs)):kvs.length≤sizeLine∧(a == sysModules)=false∧∃ vs,KV kvs vs∧h.DictOf (zbI P w) a vs :=
 show zbV P w H h a (.dK kvs) from zmV ok e
theorem zn8 {kvs:List (Key×V)} (ok:HOk P w H h) (e:H a=some (.dK kvs)):kvs.length≤sizeLine∧(a == sysModules)=false∧∃ vs,KV kvs vs∧h.DictOf (zbI P w) a vs:=zjw ok (.inl e)
theorem zgs {ks:List Key} (ok:HOk P w H h) (e:H a=some (.tup (ks.map kV))):(tupleKind (zbI P w)).is h ks a:=by
 obtain ⟨_,its,r,o,h1,h2,n,h3⟩:=(show zbV P w H h a (.tup (ks.map kV)) from ok a _ e)
 exact ⟨o,its.toArray,n,h1,h2,h3,by simpa using zgr r⟩
theorem zjx {kvs:List (List Key×V)} (ok:HOk P w H h) (e:Rd H a (.dT kvs)):kvs.length≤sizeLine∧(a == sysModules)=false ∧
  ∃ xs,KT H kvs xs∧h.DictOfH (tupleKind (zbI P w)) a xs:=by
 obtain ⟨z,y,xs,r,o,es,ep,h1,h2,h3,h4,h5⟩:=(show zbV P w H h a (.dT kvs) from zmV ok e)
 refine ⟨z,y,xs,r,o,es,ep,h1,h2,h3,h4,fun x hx=>?_,h5⟩;have all:∀ {l:List (List Key×V)} {m:List (List Key×Addr×Value)},KT H l m→∀ x∈m,(tupleKind (zbI P w)).is h x.1 x.2.1:=by
  intro l m q
  induction q with
  | nil=>intro x hx;exact nomatch hx
  | @cons p q ps qs hq t ih =>
    intro x hx;rcases mem_cons.mp hx with e | hx
    ·subst e;exact zgs ok (by rw [← hq.1];exact hq.2.1)
    ·exact ih x hx
 exact all r x hx
theorem zn9 {kvs:List (List Key×V)} (ok:HOk P w H h) (e:H a=some (.dT kvs)):kvs.length≤sizeLine∧(a == sysModules)=false ∧
  ∃ xs,KT H kvs xs∧h.DictOfH (tupleKind (zbI P w)) a xs:=zjx ok (.inl e)
end
def DGet (H:Hp) (a:Addr) (y:V) (r:Option V):Prop :=
 (∃ kvs k,Rd H a (.dK kvs)∧y=kV k∧r=valV kvs k)∨∃ kvs k b,Rd H a (.dT kvs)∧y=.ref b∧H b=some (.tup (k.map kV))∧r=valV kvs k
def DPut (H:Hp) (a:Addr) (y v:V) (H':Hp):Prop :=
 (∃ kvs k,H a=some (.dK kvs)∧y=kV k∧kvs.length < sizeLine∧H'=upd H a (.dK (putK kvs k v))) ∨
 ∃ kvs k b,H a=some (.dT kvs)∧y=.ref b∧H b=some (.tup (k.map kV))∧kvs.length < sizeLine∧H'=upd H a (.dT (putK kvs k v))
theorem DGet.k {H:Hp} {a:Addr} {kvs:List (Key×V)} {k:Key} (e:H a=some (.dK kvs)):DGet H a (kV k) (valV kvs k):=.inl ⟨kvs,k,.inl e,rfl,rfl⟩
theorem DPut.k {H:Hp} {a:Addr} {kvs:List (Key×V)} {k:Key} {v:V} (e:H a=some (.dK kvs)) (hl:kvs.length < sizeLine):DPut H a (kV k) v (upd H a (.dK (putK kvs k v))):=.inl ⟨kvs,k,e,rfl,hl,rfl⟩
section
variable {X:Cx} {pins:List (Addr×Obj)} {σ:St} {H:Hp} {s:Shared} {a:Addr} {y v:V} {u r:Value} {o:Option V} {A:Around} {E:Value→Shared→Prop}
theorem Inv.big (I:Inv X pins σ H s):sysModules < s.heap.objs.size:=by
 have h:mainGlobals < s.heap.objs.size:=(I.mod.glob.keeps I.bk).lt;exact Nat.lt_trans (by decide) h
theorem zjy {Q:Value→Shared→Prop} (hu:A.units+1 < cLine) (I:Inv X pins σ H s) (g:DGet H a y (some v)) (ry:RelV y u) (h:∀ w' s',Inv X pins σ H s'→RelV v w'→Q w' s') :
  wpAny (model X.prog X.w) A (getItem (.ref a) u) Q E s:=by
 rcases g with ⟨kvs,k,e,ey,l⟩ | ⟨kvs,k,b,e,ey,eb,l⟩
 ·subst ey;obtain ⟨z,hd,vs,rel,dd⟩:=zjw I.hok e;obtain ⟨w',hw,rw'⟩:=RelO.some_of (v:=v) (o:=valueAt vs k) (by rw [l];exact rel.val k);exact wpAny_getItem_of (zjv ry) dd.mapOf hw (h w' _ (I.tok _) rw')
 ·subst ey
  cases (show u=Value.ref b from ry)
  obtain ⟨z,hd,xs,rel,dd⟩:=zjx I.hok e;obtain ⟨w',hw,rw'⟩:=RelO.some_of (v:=v) (o:=(atKey xs k).map (·.2)) (by rw [l];exact rel.val k);obtain ⟨p,hp,hp2⟩:=Option.map_eq_some_iff.mp hw;refine wpAny_getItem_heap (tupleKind_room_in1 hu) (zgs I.hok eb) dd hp ?_;rw [hp2];exact h w' _ (I.tok _) rw'
theorem d_in {Q:Value→Shared→Prop} (hu:A.units+1 < cLine) (I:Inv X pins σ H s) (g:DGet H a y o) (ry:RelV y u) (h:∀ s',Inv X pins σ H s'→Q (.bool o.isSome) s') :
  wpAny (model X.prog X.w) A (compareOp .In u (.ref a)) Q E s:=by
 rcases g with ⟨kvs,k,e,ey,l⟩ | ⟨kvs,k,b,e,ey,eb,l⟩
 ·subst ey;obtain ⟨z,hd,vs,rel,dd⟩:=zjw I.hok e;refine wpAny_in_of (zjv ry) hd dd.mapOf ?_;rw [← (rel.val k).isSome_eq,← l];exact h _ (I.tok _)
 ·subst ey
  cases (show u=Value.ref b from ry)
  obtain ⟨z,hd,xs,rel,dd⟩:=zjx I.hok e;refine wpAny_in_heap (tupleKind_room_in1 hu) (zgs I.hok eb) hd dd ?_;have q:=(rel.val k).isSome_eq;rw [Option.isSome_map] at q;rw [← q,← l];exact h _ (I.tok _)
theorem zlX {Q:Value→Shared→Prop} (hu:A.units+1 < cLine) (I:Inv X pins σ H s) (g:DGet H a y o) (ry:RelV y u) (h:∀ s',Inv X pins σ H s'→Q (.bool (!o.isSome)) s') :
  wpAny (model X.prog X.w) A (compareOp .NotIn u (.ref a)) Q E s:=by
 rcases g with ⟨kvs,k,e,ey,l⟩ | ⟨kvs,k,b,e,ey,eb,l⟩
 ·subst ey;obtain ⟨z,hd,vs,rel,dd⟩:=zjw I.hok e;refine wpAny_notIn_of (zjv ry) hd dd.mapOf ?_;rw [← (rel.val k).isSome_eq,← l];exact h _ (I.tok _)
 ·subst ey
  cases (show u=Value.ref b from ry)
  obtain ⟨z,hd,xs,rel,dd⟩:=zjx I.hok e;refine wpAny_notIn_heap (tupleKind_room_in1 hu) (zgs I.hok eb) hd dd ?_;have q:=(rel.val k).isSome_eq;rw [Option.isSome_map] at q;rw [← q,← l];exact h _ (I.tok _)
theorem zjz {h':Heap} {t':Nat} {ob:HO} (I:Inv X pins σ H s) (mu:Mut (H a)) (hs:Heap.SameBut a s.heap h') (he:∃ q,h'.get? a=some q) (new:zbV X.prog X.w (upd H a ob) h' a ob) :
  Inv X pins σ (upd H a ob) { s with heap:=h',toks:=t' } :=
 I.write (x:=a) (e:=a) mu (.inl rfl) (fun b q hb z=>(hs.2 b hb).trans z) he new
theorem zmW {P:Program} {w:World} {H':Hp} {h':Heap} {kvs:List (Key×V)} {vs:List (Key×Value)} (z:kvs.length≤sizeLine) (hd:(a == sysModules)=false) (rel:KV kvs vs) (dd:h'.DictOf (zbI P w) a vs) :
  zbV P w H' h' a (.dK kvs):=⟨z,hd,vs,rel,dd⟩
theorem zjA {H':Hp} {Q:Unit→Shared→Prop} (hu:A.units+1 < cLine) (I:Inv X pins σ H s) (g:DPut H a y v H') (ry:RelV y u) (rv:RelV v r) (h:∀ s',Inv X pins σ H' s'→Q () s') :
  wpAny (model X.prog X.w) A (setItem (.ref a) u r) Q E s:=by
 rcases g with ⟨kvs,k,e,ey,l,eH⟩ | ⟨kvs,k,b,e,ey,eb,l,eH⟩
 ·subst ey eH;obtain ⟨z,hd,vs,rel,dd⟩:=zn8 I.hok e;have hz:vs.length≤sizeLine:=by rw [← rel.length];exact z
  have hl:(putK kvs k v).length≤sizeLine:=by have:=zdv kvs k v;omega
  refine wpAny_setItem_pairs (hsz:=hz) (zjv ry) dd fun h' dd' hs=>h _ ?_;have he:∃ q,h'.get? a=some q:=let ⟨q,_,_,hq,_⟩:=dd';⟨q,hq⟩;exact zjz I (by rw [e];exact True.intro) hs he (zmW hl hd (rel.put k rv) dd')
 ·subst ey eH
  cases (show u=Value.ref b from ry)
  obtain ⟨z,hd,xs,rel,dd⟩:=zn9 I.hok e;have hz:xs.length≤sizeLine:=by rw [← Paired.length rel];exact z
  have hl:(putK kvs k v).length≤sizeLine:=by have:=zdv kvs k v;omega
  refine wpAny_setItem_heap (hsz:=hz) (tupleKind_room_in1 hu) (zgs I.hok eb) dd fun h' dd' hs=>h _ ?_;obtain ⟨q,es,ep,hq,h2,h3,h4,_,h5⟩:=dd';refine zjz I (by rw [e];exact True.intro) hs ⟨q,hq⟩ ⟨hl,hd,_,(rel.put k eb rv).keeps fun c ys ec=>?_,q,es,ep,hq,h2,h3,h4,h5⟩;rw [zaR (zn4 ec e (fun z=>nomatch z))];exact ec
end
section
variable {X:Cx} {pins:List (Addr×Obj)} {σ:St} {H:Hp} {s:Shared} {a:Addr} {kvs:List (Key×V)} {k:Key} {u:Value} {A:Around} {E:Value→Shared→Prop}
end
def NoSl (i:Expr):Prop:=∀ ov iv,subscripted i false ov iv=operate [ov,iv] (getItem ov iv)
theorem zlY {prog:Program} {w:World} {A:Around} {E:Value→Shared→Prop} {s:Shared} {env:Env} {value slice:Expr} {pos:Pos} {T id:String} {Q:Value→Shared→Prop}
  (hl:typeLookup (.type T) "__getitem__"=pure (some (.builtin id))) (hs:NoSl slice)
  (h:wpAny (model prog w) A (eval value env) (fun o s₁=>wpAny (model prog w) A (eval slice env) (fun i s₂=>s₂.TypeIs o T∧wpAny (model prog w) A (getItem o i) Q E s₂) E s₁) E s) :
  wpAny (model prog w) A (eval (.Subscript value slice pos) env) Q E s:=by
 refine Subscript_ (wpAny_mono h (fun o s₁ h₁=>wpAny_mono h₁ (fun i s₂ h₂=>?_) fun _ _ x=>x) fun _ _ x=>x);obtain ⟨hT,h₂⟩:=h₂;unfold subscriptTail;refine wpAny_bind ?_;rw [getitemInPython_of_ne hT.not_modules];refine wpAny_bind (wpAny_specialOf hT hl ?_);have fin:wpAny (model prog w) A (subscripted slice false o i) (fun r s₃=>wpAny (model prog w) A (letTemporaryGo value o r >>= fun _=>pure r) Q E s₃) E s₂:=by
  rw [hs o i];exact wpAny_operating (wpAny_mono h₂ (fun r s₃ h₃=>wpAny_bind (wpAny_letTemporaryGo (wpAny_pure h₃))) fun _ _ x=>x)
 first
  | exact wpAny_pure (wpAny_bind fin)
  | exact wpAny_bind (wpAny_pure (wpAny_bind fin))
  | exact wpAny_bind fin
theorem zhb {X:Cx} {pins:List (Addr×Obj)} {σ:St} {H:Hp} {s:Shared} {a:Addr} {y:V} {o:Option V} (I:Inv X pins σ H s) (g:DGet H a y o):s.TypeIs (.ref a) "dict":=by
 rcases g with ⟨kvs,k,e,_,_⟩ | ⟨kvs,k,b,e,_,_,_⟩
 ·obtain ⟨_,_,vs,_,dd⟩:=zjw I.hok e;exact dd.typeIs
 ·obtain ⟨_,_,xs,_,dd⟩:=zjx I.hok e;exact dd.typeIs
def zmX (td ty:TE):TE:=fun σ H Q=>td σ H fun x H1=>ty σ H1 fun y H2=>∃ a v,x=.ref a∧DGet H2 a y (some v)∧Q v H2
def tDIn (ty td:TE):TE:=fun σ H Q=>ty σ H fun y H1=>td σ H1 fun x H2=>∃ a o,x=.ref a∧DGet H2 a y o∧Q (.bl o.isSome) H2
def zjB (ty td:TE):TE:=fun σ H Q=>ty σ H fun y H1=>td σ H1 fun x H2=>∃ a o,x=.ref a∧DGet H2 a y o∧Q (.bl (!o.isSome)) H2
def zmY (td ty tv:TE):TS:=fun D σ H=>tv σ H fun v H1=>td σ H1 fun x H2=>ty σ H2 fun y H3=>∃ a H4,x=.ref a∧DPut H3 a y v H4∧D.nx σ H4
section
variable {X:Cx} {o i e value:Expr} {pos pos' tpos:Pos} {td ty tv:TE}
theorem zlZ (hu:X.A.units+1 < cLine) (ho:PE X o td) (hi:PE X i ty) (hs:NoSl i):PE X (.Subscript o i pos) (zmX td ty):=by
 intro pins s σ H Q I h;refine zlY PySem.F.slot_dict_getitem.lookup hs (thn (ho pins s σ H _ I h) fun u s1 ⟨x,H1,I1,rx,q1⟩=>thn (hi pins s1 σ H1 _ I1 q1) fun iv s2 ⟨y,H2,I2,ry,a,v,ex,g,q2⟩=>?_);subst ex;obtain rfl:u=Value.ref a:=rx;exact ⟨zhb I2 g,zjy hu I2 g ry fun w' s3 I3 rw'=>⟨v,H2,I3,rw',q2⟩⟩
theorem zmZ (hu:X.A.units+1 < cLine) (hi:PE X i ty) (ho:PE X o td):PC X .In i o (tDIn ty td):=by
 intro pins s σ H Q I h;refine thn (hi pins s σ H _ I h) fun iv s1 ⟨y,H1,I1,ry,q1⟩=>thn (ho pins s1 σ H1 _ I1 q1) fun u s2 ⟨x,H2,I2,rx,a,ov,ex,g,q2⟩=>?_;subst ex;obtain rfl:u=Value.ref a:=rx;exact d_in hu I2 g ry fun s3 I3=>⟨.bl ov.isSome,H2,I3,rfl,q2⟩
theorem zjC (hu:X.A.units+1 < cLine) (hi:PE X i ty) (ho:PE X o td):PC X .NotIn i o (zjB ty td):=by
 intro pins s σ H Q I h;refine thn (hi pins s σ H _ I h) fun iv s1 ⟨y,H1,I1,ry,q1⟩=>thn (ho pins s1 σ H1 _ I1 q1) fun u s2 ⟨x,H2,I2,rx,a,ov,ex,g,q2⟩=>?_;subst ex;obtain rfl:u=Value.ref a:=rx;exact zlX hu I2 g ry fun s3 I3=>⟨.bl (!ov.isSome),H2,I3,rfl,q2⟩
theorem zjD (hu:X.A.units+1 < cLine) (ho:PE X o td) (hi:PE X i ty) (hv:PE X value tv) (hs:swapsWith value (some (.Subscript o i pos')) pos.line X.env=pure false) :
  PS X (.Assign [.Subscript o i pos'] value pos) (zmY td ty tv):=by
 intro pins s σ H D I h;refine wpAny_Assign_Subscript (thn (hv pins s σ H _ I h) fun r s1 ⟨v,H1,I1,rv,q1⟩=>thn (ho pins s1 σ H1 _ I1 q1) fun u s2 ⟨x,H2,I2,rx,q2⟩=>thn (hi pins s2 σ H2 _ I2 q2) fun iv s3 ⟨y,H3,I3,ry,a,H4,ex,g,q3⟩=>?_) hs;subst ex;obtain rfl:u=Value.ref a:=rx;exact zjA hu I3 g ry rv fun s4 I4=>⟨σ,H4,I4,q3⟩
end
theorem zkJ {P:Program} {w:World} {H:Hp} (h:Heap) (hb:sysModules < h.objs.size):zbV P w H (h.push { cls:=.type "dict",data:=.dict #[] }) h.objs.size (.dK []) :=
 ⟨zero_le _,beq_eq_false_iff_ne.mpr (Ne.symm (Nat.ne_of_lt hb)),[],.nil,Heap.DictOf.new h⟩
def tDNewK:TE:=fun _ H Q=>∀ p,H p=none→Q (.ref p) (upd H p (.dK []))
section
variable {X:Cx} {pos:Pos}
theorem pe_dnewK:PE X (.Dict [] [] pos) tDNewK:=fun pins s σ H Q I h =>
 wpAny_Dict_empty ⟨.ref s.heap.objs.size,_,I.laid (a:=s.heap.objs.size) (o:=.dK []) (t':=s.toks) (fun _ _ q=>Heap.get?_push_of_some _ q) (Nat.le_refl _) (zkJ s.heap I.big),rfl,h _ (I.hok.fresh (Nat.le_refl _))⟩
end
end L2
namespace L2
open PySem PySem.Spec PyProof.Rows
section
variable {prog:Program} {w:World} {A:Around} {R:Result -> Shared -> Prop} {s:Shared}
theorem zgt {elt target iter:Expr} {ifs:List Expr} {scope:Scope} {pos:Pos} {it acc:Value} {env:Env} (I:Nat→Shared→Prop)
  (turn:∀ n s,I n s→wpAny (model prog w) A (pyNext it) (fun r s1=>match r with
   | none=>R (.ok .next) s1
   | some v=>wpAny (model prog w) A (letOwnedTupleGo target it v) (fun _ s1'=>wpAny (model prog w) A (assign target env v) (fun _ s2 =>
      wpAny (model prog w) A (forIn ifs true fun c r=>if r=true then do let ok ← isTrue c env (eval c env);pure (ForInStep.yield ok) else pure (ForInStep.yield r)) (fun ok s3 =>
       if ok=true then wpAny (model prog w) A (eval elt env) (fun x s4 =>
        wpAny (model prog w) A (call (.builtin "list.append") [acc,x]) (fun _ s5=>∃ m,m < n∧I m s5) (fun _ _=>False) s4) (fun _ _=>False) s3
       else ∃ m,m < n∧I m s3) (fun _ _=>False) s2) (fun _ _=>False) s1') (fun _ _=>False) s1) (fun _ _=>False) s)
  (n:Nat) (h:I n s) :
  codeAny (model prog w) A (.compLoop (.ListComp elt [⟨target,iter,ifs,0⟩] scope pos) 0 it acc env) R s:=by
 refine codeAny_loop rfl I (fun n s hI=>?_) n h;show wpAny _ A ((compTurn (.ListComp elt [⟨target,iter,ifs,0⟩] scope pos) 0 it acc env).onRaise (fun x=>do noteFrame x env;theTreesLotGoes x)) _ _ s;refine wpAny_noted ?_;rw [compTurn_list];refine wpAny_bind (wpAny_standAt (wpAny_bind (wpAny_mono (turn n s hI) (fun r s1 h1=>?_) fun _ _ z=>z.elim)))
 cases r with
 | none=>exact wpAny_pure h1
 | some v =>
   refine wpAny_bind (wpAny_mono h1 (fun _ s1' h1'=>?_) fun _ _ z=>z.elim);refine wpAny_bind (wpAny_mono h1' (fun _ s2 h2=>wpAny_bind (wpAny_mono h2 (fun ok s3 h3=>?_) fun _ _ z=>z.elim)) fun _ _ z=>z.elim)
   cases ok with
   | false=>exact wpAny_pure ⟨rfl,h3⟩
   | true =>
     exact wpAny_bind (wpAny_bind (wpAny_mono h3 (fun x s4 h4=>wpAny_bind (wpAny_mono h4 (fun _ s5 h5=>wpAny_pure (wpAny_pure ⟨rfl,h5⟩)) fun _ _ z=>z.elim)) fun _ _ z=>z.elim))
end
def PTs (X:Cx) (ifs:List Expr) (t:TT):Prop :=
 ∀ (pins:List (Addr×Obj)) (s:Shared) (σ:St) (H:Hp) (Q:Bool→Hp→Prop),Inv X pins σ H s→t σ H Q →
  wpAny (model X.prog X.w) X.A (forIn ifs true fun c r=>if r=true then do let ok ← isTrue c X.env (eval c X.env);pure (ForInStep.yield ok) else pure (ForInStep.yield r)) (TP X pins σ Q) X.xe s
def tTT:TT:=fun _ H Q=>Q true H
theorem zbl {X:Cx}:PTs X [] tTT:=fun pins s σ H Q I h=>wpAny_tests_nil ⟨H,I,h⟩
theorem zcp {X:Cx} {c:Expr} {t:TT} (h:PT X c t):PTs X [c] t:=fun pins s σ H Q I q=>wpAny_tests_one (h pins s σ H Q I q)
def Cx.comp (X:Cx) (scope:Scope) (cl:List (Str×Addr)) (C:Addr) (N:List Str) (s:Shared) (H:Hp) (fp:List Addr):Cx where
 prog:=X.prog
 w:=X.w
 K:=X.K
 mg:=X.mg
 base:=X.base
 A:=X.A
 N:=N
 s₀:=s
 H₀:=H
 env:=compEnvC scope cl C X.env
 outer:=X.stack
 stack:=X.stack
 ex:=fp
 fn:=fun _=>false
 calm:=X.calm
 pn:=[]
 xe:=fun _ _=>False
def zbC (names:List (Str×NameKind)) (env:Env) (acc:List (Str×Addr)):List (Str×Addr) :=
 names.foldl (fun cs x=>if x.2 == .free then match env.cells.lookup x.1 with | some c=>(x.1,c)::cs | none=>cs else cs) acc
theorem zdK {scope:Scope} {env:Env} (h:∀ x∈scope.names,x.2=.free→∃ c,env.cells.lookup x.1=some c):closureFor scope env=pure (zbC scope.names env []):=by
 have go:∀ (names:List (Str×NameKind)) (acc:List (Str×Addr)),(∀ x∈names,x.2=.free→∃ c,env.cells.lookup x.1=some c) →
   (forIn (m:=Sem) names acc fun x r=>if (x.2 == NameKind.free)=true then do let y ← cellOf env x.1;pure (ForInStep.yield ((x.1,y)::r)) else pure (ForInStep.yield r))=pure (zbC names env acc):=by
  intro names
  induction names with
  | nil=>intro acc _;rfl
  | cons x r ih =>
    intro acc hx;obtain ⟨n,k⟩:=x;rw [List.forIn_cons];have ihr:=fun acc=>ih acc fun y hy=>hx y (mem_cons_of_mem _ hy)
    by_cases hk:k=.free
    ·subst hk;obtain ⟨c,hc⟩:=hx (n,.free) mem_cons_self rfl;have e:cellOf env n=pure c:=by unfold cellOf;rw [show env.cells.lookup n=some c from hc]
     have e2:zbC ((n,NameKind.free)::r) env acc=zbC r env ((n,c)::acc):=by
      unfold zbC;rw [foldl_cons];simp only [beq_self_eq_true,if_true];rw [show env.cells.lookup n=some c from hc]
     rw [e2,← ihr];simp only [beq_self_eq_true,if_true,e,pure_bind]
    ·have hb:(k == NameKind.free)=false:=by simpa using hk
     have e2:zbC ((n,k)::r) env acc=zbC r env acc:=by
      unfold zbC;rw [foldl_cons];simp only [hb,Bool.false_eq_true,if_false]
     rw [e2,← ihr];simp only [hb,Bool.false_eq_true,if_false,pure_bind]
 unfold closureFor;have:=go scope.names [] h;simp only [pure_bind,bind_pure] at this ⊢;exact this
theorem zfv {env:Env}:∀ (names:List (Str×NameKind)) (acc:List (Str×Addr)),(∀ x c,acc.lookup x=some c→env.cells.lookup x=some c)→∀ x c,(zbC names env acc).lookup x=some c→env.cells.lookup x=some c:=by
 intro names
 induction names with
 | nil=>intro acc h x c e;exact h x c e
 | cons y r ih =>
   intro acc h x c e;unfold zbC at e;rw [foldl_cons] at e;refine ih _ ?_ x c e;intro z d hz
   by_cases hk:(y.2 == NameKind.free)=true
   ·rw [if_pos hk] at hz
    cases hc:env.cells.lookup y.1 with
    | none=>rw [hc] at hz;exact h z d hz
    | some a =>
      rw [hc] at hz;simp only [lookup_cons] at hz
      by_cases hzy:(z == y.1)=true
      ·rw [hzy] at hz;have:z=y.1:=by simpa using hzy
       rw [this,hc];exact hz
      ·have:(z == y.1)=false:=by simpa using hzy
       rw [this] at hz;exact h z d hz
   ·rw [if_neg hk] at hz;exact h z d hz
theorem zfw {env:Env}:∀ (names:List (Str×NameKind)) (acc:List (Str×Addr)) (x:Str),((∃ c,acc.lookup x=some c)∨((x,NameKind.free)∈names∧∃ c,env.cells.lookup x=some c))→∃ c,(zbC names env acc).lookup x=some c:=by
 intro names
 induction names with
 | nil=>intro acc x h;rcases h with h | h;exact h;exact absurd h.1 (by simp)
 | cons y r ih =>
   intro acc x h;unfold zbC;rw [foldl_cons];refine ih _ x ?_
   by_cases hk:(y.2 == NameKind.free)=true
   ·rw [if_pos hk]
    cases hc:env.cells.lookup y.1 with
    | none =>
      rcases h with h | ⟨h,h2⟩
      ·exact .inl h
      ·rcases mem_cons.mp h with e | e
       ·subst e;rw [hc] at h2;obtain ⟨_,h2⟩:=h2;cases h2
       ·exact .inr ⟨e,h2⟩
    | some a =>
      simp only [lookup_cons]
      by_cases hzy:(x == y.1)=true
      ·exact .inl ⟨a,by rw [hzy]⟩
      ·have hf:(x == y.1)=false:=by simpa using hzy
       rw [hf];rcases h with h | ⟨h,h2⟩
       ·exact .inl h
       ·rcases mem_cons.mp h with e | e
        ·subst e;simp at hf
        ·exact .inr ⟨e,h2⟩
   ·rw [if_neg hk];rcases h with h | ⟨h,h2⟩
    ·exact .inl h
    ·rcases mem_cons.mp h with e | e
     ·subst e;simp at hk
     ·exact .inr ⟨e,h2⟩
def capS (own:Nat) (js:List Nat) (σ:St):St:=List.replicate own none++js.map fun j=>(σ[j]?).getD none
def zhc (wi:TI) (own:Nat) (js:List Nat) (g:TG) (tc:TT) (te:TE):TE:=fun σ H Q=>wi σ H fun J H1=>∀ p,H1 p=none →
 ∃ W:Nat→Nat→St→Hp→Prop,(∃ m,W 0 m (capS own js σ) (upd H1 p (.lst [])))∧∀ i m σc H,W i m σc H →
  (J.stop i H∧Q (.ref p) H)∨(J.go i H∧∃ N:St→Hp→Prop,(∀ σ' H',N σ' H'→∃ m',m' < m∧W (i+1) m' σ' H')∧∀ x H',J.yld i H x H' →
   g x σc H' fun σ2 H2=>tc σ2 H2 fun b H3=>if b=true then te σ2 H3 fun v H4=>∃ ys,H4 p=some (.lst ys)∧ys.length < sizeLine∧N σ2 (upd H4 p (.lst (ys++[v]))) else N σ2 H3)
structure zcX (X:Cx) (scope:Scope) (N:List Str) (own:Nat) (js:List Nat):Prop where
 kind:scope.kind=.function
 nocell:∀ y∈scope.names,y.2≠.cell
 nodup:∀ y∈scope.names,y.2=.local→scope.names.lookup y.1=some .local
 free:∀ y∈scope.names,y.2=.free→X.env.kindOf y.1=some .cell∨X.env.kindOf y.1=some .free
 len:N.length=own+js.length
 cap:∀ (i:Nat) (j:Nat),js[i]? = some j→N[own+i]? = X.N[j]?∧∀ x,X.N[j]? = some x→scope.names.lookup x=some .free∧Vis X.env.scope x∧X.env.kindOf x≠some .local
section
variable {X:Cx} {tg elt iter:Expr} {ifs:List Expr} {scope:Scope} {pos:Pos} {N:List Str} {own:Nat} {js:List Nat} {wi:TI} {g:TG} {tc:TT} {te:TE}
theorem zch {env:Env} {names:List (Str×NameKind)} {x:Str} {k:NameKind} (hk:k=.cell∨k=.free) (hnc:∀ y∈names,y.2≠.cell)
  (h:(names.map fun (n,k)=>if (k == NameKind.free && env.scope.kind == .function && env.kindOf n == some .cell) then (n,NameKind.cell) else (n,k)).lookup x=some k):(x,NameKind.free)∈names:=by
 have:=PySem.mem_of_lookup h;obtain ⟨⟨n,k'⟩,hm,e⟩:=mem_map.mp this;dsimp only at e;split at e
 ·rename_i hc
  cases e
  have:k'=.free:=by
   simp only [Bool.and_eq_true,beq_iff_eq] at hc;exact hc.1.1
  rw [← this];exact hm
 ·cases e
  rcases hk with rfl | rfl
  ·exact absurd rfl (hnc _ hm)
  ·exact hm
theorem zbY {env:Env}:∀ {names:List (Str×NameKind)} {x:Str},names.lookup x=some .free →
  (names.map fun (n,k)=>if (k == NameKind.free && env.scope.kind == .function && env.kindOf n == some .cell) then (n,NameKind.cell) else (n,k)).lookup x=some .local→False
 | [],_,h,_=>by simp at h
 | (n,k)::r,x,h,h'=>by
  have ih:=@zbY env r x
  cases hx:x == n with
  | true =>
    simp only [lookup_cons,hx] at h
    cases h
    rw [map_cons] at h';dsimp only at h';split at h' <;> simp [lookup_cons,hx] at h'
  | false =>
    simp only [lookup_cons,hx] at h;rw [map_cons] at h';dsimp only at h';split at h' <;> simp only [lookup_cons,hx] at h' <;> exact ih h h'
theorem zkK {pins:List (Addr×Obj)} {σ:St} {H:Hp} {s:Shared} {fp:List Addr} {h1:Heap} (S:zcX X scope N own js) (I:Inv X pins σ H s) (hf:∀ b∈fp,FpOk X pins H b) (hfo:∀ b∈fp,b < s.heap.objs.size)
  (C p:Addr) (hp:p=s.heap.objs.size) (hC:C=s.heap.objs.size+1) (hns:h1.Ns C fun _=>none) (hkeep:∀ b o,s.heap.get? b=some o→h1.get? b=some o)
  (hacc:h1.get? p=some { cls:=.type "list",data:=.seq #[] 0 }) (tk:Nat) :
  Inv (X.comp scope (zbC scope.names X.env []) C N s H fp) [] (capS own js σ) (upd H p (.lst [])) { s with heap:=h1,toks:=tk }:=by
 have sub:=zfv (env:=X.env) scope.names [] (fun x c e=>by simp at e);have hHp:H p=none:=I.hok.fresh (by rw [hp];exact Nat.le_refl _);have hHC:H C=none:=I.hok.fresh (by rw [hC];exact le_succ _);have hpC:C≠p:=by rw [hp,hC];exact Nat.succ_ne_self _
 have cellLt:∀ x c,X.env.cells.lookup x=some c→c < s.heap.objs.size:=fun x c e=>by
  obtain ⟨v,q⟩:=I.cell x c e;exact q.lt
 have nop:∀ q:Addr×Obj,q∉(X.comp scope (zbC scope.names X.env []) C N s H fp).pn++([]:List (Addr×Obj)):=fun q z=>absurd (show q∈([]:List (Addr×Obj)) from z) (by simp);refine ⟨⟨I.ok.mod,S.kind,I.ok.glob,I.ok.blt,by rw [show (X.comp scope (zbC scope.names X.env []) C N s H fp).env.locals=C from rfl,hC];exact le_succ _,?_,?_,fun y c z=>absurd (show false=true from z) (by decide),I.ok.hd,I.ok.frames,.inl rfl,?_,fun b o e=>I.bs b o e,Nat.le_trans I.ok.bsz I.sz,?_,?_,I.stack,I.stkFree⟩,
  rfl,I.bare,Un.laid hkeep (by rw [hp];exact Nat.le_refl _) hHp,⟨_,hns,?_⟩,?_,?_,?_,fun q hq=>absurd hq (nop q),?_,?_⟩
 ·intro x y c e1 e2;exact I.ok.inj x y c (sub x c e1) (sub y c e2)
 ·intro x hx;have hm:(x,NameKind.free)∈scope.names:=by
   rcases hx with hx | hx
   ·exact zch (.inl rfl) S.nocell hx
   ·exact zch (.inr rfl) S.nocell hx
  exact zfw scope.names [] x (.inr ⟨hm,I.ok.has x (S.free _ hm rfl)⟩)
 ·intro b hb;obtain ⟨f0,f1,f2,f3,f4,f5⟩:=hf b hb;refine ⟨fun e=>?_,fun x c e=>f4 x c (sub x c e)⟩;have e':b=C:=e;have:=hfo b hb;rw [e',hC] at this;exact absurd this (Nat.not_lt.mpr (le_succ _))
 ·intro b o e hb;obtain ⟨f0,f1,f2,f3,f4,f5⟩:=hf b hb;rcases f3 with z | z
  ·exact I.ok.noex b o e z
  ·exact absurd (Nat.lt_of_lt_of_le (Heap.lt_size (I.ok.bs b o e).1) z) (Nat.lt_irrefl _)
 ·intro b hb z;obtain ⟨f0,f1,f2,f3,f4,f5⟩:=hf b hb;rcases mem_cons.mp (I.stkSub b z) with e | e
  ·exact f1 e
  ·exact f2 e
 ·intro i x v h1' h2 h3;have hlen:(capS own js σ).length=own+js.length:=by simp [capS]
  have hio:own≤i:=by
   by_cases hi:i < own
   ·unfold capS at h2;rw [List.getElem?_append_left (by simpa using hi),List.getElem?_replicate,if_pos hi] at h2
    cases h2
   ·omega
  obtain ⟨k,rfl⟩:∃ k,i=own+k:=⟨i-own,by omega⟩
  have e1:(js.map fun j=>(σ[j]?).getD none)[k]? = some (some v):=by
   unfold capS at h2;rw [getElem?_append_right (by simp)] at h2;simpa using h2
  rw [getElem?_map] at e1
  cases ej:js[k]? with
  | none=>rw [ej] at e1;cases e1
  | some j =>
    rw [ej] at e1;have e2:(σ[j]?).getD none=some v:=Option.some.inj e1;have e3:σ[j]? = some (some v):=by
     cases q:σ[j]? with
     | none=>rw [q] at e2;cases e2
     | some z=>rw [q] at e2;exact congrArg some e2
    obtain ⟨c1,c2⟩:=S.cap k j ej;have hN:X.N[j]? = some x:=by rw [← c1];exact h1'
    obtain ⟨d1,d2,d3⟩:=c2 x hN;obtain ⟨m,_,hl⟩:=I.loc;obtain ⟨u,r,l⟩:=hl j x v hN e3 d2;refine ⟨u,r,?_⟩;rcases l with ⟨l,_⟩ | ⟨_,c,ec,o,ho,hd⟩
    ·exact absurd l d3
    ·obtain ⟨c',hc'⟩:=zfw (env:=X.env) scope.names [] x (.inr ⟨PySem.mem_of_lookup d1,c,ec⟩);have e4:=sub x c' hc';rw [ec] at e4
     cases e4
     refine .inr ⟨?_,c,hc',o,hkeep c o ho,hd⟩;rcases h3 with z | z | z
     ·exact (zbY d1 z).elim
     ·exact .inl z
     ·exact .inr z
 ·intro x c e;obtain ⟨v,o,ho,hd⟩:=I.cell x c (sub x c e);exact ⟨v,o,hkeep c o ho,hd⟩
 ·rw [show (X.comp scope (zbC scope.names X.env []) C N s H fp).env.locals=C from rfl,zaR hpC];exact hHC
 ·intro x c e;rw [zaR (by rw [hp];exact Nat.ne_of_lt (cellLt x c (sub x c e)))];exact I.freeC x c (sub x c e)
 ·exact I.hok.laid hkeep (by rw [hp];exact Nat.le_refl _) ⟨zero_le _,[],0,.nil,hacc⟩
 ·show (capS own js σ).length=N.length;rw [S.len];simp [capS]
theorem zfx {pins:List (Addr×Obj)} {σ:St} {H:Hp} {s:Shared} {E:Value→Shared→Prop} {it:Addr} {fp:List Addr} {tn:Nat→Heap→Prop} {J:It} {Q:VK} {RR:Value→Addr→Result→Shared→Prop}
  (S:zcX X scope N own js) (hc:X.calm=true) (I:Inv X pins σ H s) (T:Turn X.prog X.w X.K tg J fp it tn) (st:tn 0 s.heap) (hf:∀ b∈fp,FpOk X pins H b)
  (hg:∀ cl C s H fp,PG (X.comp scope cl C N s H fp) tg g) (hts:∀ cl C s H fp,PTs (X.comp scope cl C N s H fp) ifs tc) (he:∀ cl C s H fp,PE (X.comp scope cl C N s H fp) elt te)
  (hq:∀ p,H p=none→∃ W:Nat→Nat→St→Hp→Prop,(∃ m,W 0 m (capS own js σ) (upd H p (.lst [])))∧∀ i m σc H,W i m σc H →
   (J.stop i H∧Q (.ref p) H)∨(J.go i H∧∃ N:St→Hp→Prop,(∀ σ' H',N σ' H'→∃ m',m' < m∧W (i+1) m' σ' H')∧∀ x H',J.yld i H x H' →
    g x σc H' fun σ2 H2=>tc σ2 H2 fun b H3=>if b=true then te σ2 H3 fun v H4=>∃ ys,H4 p=some (.lst ys)∧ys.length < sizeLine∧N σ2 (upd H4 p (.lst (ys++[v]))) else N σ2 H3))
  (hRR:∀ p C s' H' m,C=s.heap.objs.size+1→s'.heap.Ns C m→Inv X pins σ H' s'→H' C=none→Q (.ref p) H'→RR (.ref p) C (.ok .next) s') :
  wpAny (model X.prog X.w) X.A (newList []) (fun acc s3=>wpAny (model X.prog X.w) X.A (newFunctionEnv scope X.env.globals (zbC scope.names X.env []) [] X.env.qual none .none (some X.env)) (fun cenv s4 =>
   codeAny (model X.prog X.w) X.A (.compStart (.ListComp elt [⟨tg,iter,ifs,0⟩] scope pos) 0 (.ref it) acc { cenv with scope:=relabel scope X.env }) (RR acc cenv.locals) s4) E s3) E s:=by
 refine wpAny_newObj_type (wpAny_newFunctionEnv S.nocell (by intro y hy;simp at hy) (fun h1 hns1 hsb1=>?_) S.kind);dsimp only at hns1 hsb1 ⊢;generalize hH2:s.heap.push { cls:=.type "list",dict:=none,data:=.seq ([]:List Value).toArray }=H2 at hns1 hsb1 ⊢;have hC:H2.objs.size=s.heap.objs.size+1:=by rw [← hH2,Heap.size_push]
 have old:∀ b o,s.heap.get? b=some o→h1.get? b=some o:=fun b o e=>hsb1.extBut b o (by rw [hC];exact Nat.ne_of_lt (lt_succ_of_lt (Heap.lt_size e))) (Heap.get?_push_of_some _ (hH2▸Heap.get?_push_of_some _ e));have hacc:h1.get? s.heap.objs.size=some { cls:=.type "list",data:=.seq #[] 0 }:=hsb1.extBut _ _ (by rw [hC];exact Nat.ne_of_lt (lt_succ_self _)) (Heap.get?_push_of_some _ (hH2▸Heap.get?_push_size _ rfl));have hfo:∀ b∈fp,b < s.heap.objs.size:=fun b hb=>by
  obtain ⟨o,e,_⟩:=T.obj 0 _ st b hb;exact Heap.lt_size e
 have st1:tn 0 h1:=T.keep _ _ _ st fun b _ o e=>old b o e;have I0:=zkK (fp:=fp) S I hf hfo H2.objs.size s.heap.objs.size rfl hC hns1 old hacc (s.toks+([]:List (Str×Value)).length);have hHp:H s.heap.objs.size=none:=I.hok.fresh (Nat.le_refl _);obtain ⟨W,⟨m0,w0⟩,turn⟩:=hq _ hHp;generalize hX:X.comp scope (zbC scope.names X.env []) H2.objs.size N s H fp=Y at I0;have eY:(Y.prog=X.prog∧Y.w=X.w∧Y.K=X.K∧Y.calm=true∧Y.A=X.A)∧Y.env=compEnvC scope (zbC scope.names X.env []) H2.objs.size X.env∧Y.fs=frs X.stack∧Y.ex=fp∧Y.s₀=s∧Y.H₀=H∧Y.pn=[]:=by
  subst hX;exact ⟨⟨rfl,rfl,rfl,hc,rfl⟩,rfl,rfl,rfl,rfl,rfl,rfl⟩
 have hgY:PG Y tg g:=by subst hX;exact hg _ _ _ _ _
 have htY:PTs Y ifs tc:=by subst hX;exact hts _ _ _ _ _
 have heY:PE Y elt te:=by subst hX;exact he _ _ _ _ _
 have hxe:Y.xe=fun _ _=>False:=by subst hX;rfl
 obtain ⟨⟨e1,e2,e3,e4,e5⟩,e6,e7,e8,e9,e10,e11⟩:=eY;have sub:=zfv (env:=X.env) scope.names [] (fun x c e=>by simp at e);have stat:∀ {H':Hp},(∀ b∈fp,H' b=none)→∀ b∈fp,FpOk Y [] H' b:=fun {H'} hn b hb=>by
  refine ⟨hn b hb,?_,?_,.inl (by rw [e8];exact hb),?_,?_⟩
  ·rw [e6];show b≠H2.objs.size;rw [hC];exact Nat.ne_of_lt (lt_succ_of_lt (hfo b hb))
  ·rw [e7];intro z;rcases mem_cons.mp (I.stkSub b z) with e | e
   ·exact (hf b hb).2.1 e
   ·exact (hf b hb).2.2.1 e
  ·intro x c e;rw [e6] at e;exact (hf b hb).2.2.2.2.1 x c (sub x c e)
  ·intro q hq;rw [e11] at hq;exact absurd hq (by simp)
 have noT:∀ b∈fp,b≠s.heap.objs.size:=fun b hb=>Nat.ne_of_lt (hfo b hb);have loop:∀ s3:Shared,s3={ s with heap:=h1,toks:=s.toks+([]:List (Str×Value)).length } →
   codeAny (model X.prog X.w) X.A (.compLoop (.ListComp elt [⟨tg,iter,ifs,0⟩] scope pos) 0 (.ref it) (.ref s.heap.objs.size) (compEnvC scope (zbC scope.names X.env []) H2.objs.size X.env))
    (RR (.ref s.heap.objs.size) H2.objs.size) s3:=by
  rintro s3 rfl;rw [← e1,← e2,← e5,← e6];refine zgt (fun n s'=>∃ i σ' H',Inv Y [] σ' H' s'∧tn i s'.heap∧(∀ b∈fp,H' b=none)∧W i n σ' H') ?_ m0 ⟨0,_,_,I0,st1,fun b hb=>by rw [zaR (noT b hb)];exact (hf b hb).1,w0⟩;rintro n s3 ⟨i,σ3,H3,I3,st3,fr3,w3⟩;rcases turn i n σ3 H3 w3 with ⟨stop,qn⟩ | ⟨go,N',hN,step⟩
  ·have tt:=T.done Y e1 e2 e3 e4 i [] s3 σ3 H3 (fun _ _=>False) I3 (stat fr3) st3 stop;rw [← e1,← e2] at tt;refine thn tt fun r s4 ⟨hr,I4⟩=>?_;subst hr;obtain ⟨m,hn4,_⟩:=I4.loc;have hl:Y.env.locals=H2.objs.size:=by rw [e6];rfl
   have u:=I4.base;rw [e7,e8,e9,e10] at u;refine hRR _ _ s4 H3 m hC (by rw [← hl];exact hn4) ?_ (by rw [← hl];exact I4.free) qn;refine I.call' (by rw [I4.os,e9]) u (by rw [← e1,← e2];exact I4.hok) I4.bare fun b hb=>?_;obtain ⟨f0,f1,f2,f3,f4,f5⟩:=hf b hb;exact ⟨f3,f1,f4,f5⟩
  ·have tt:=T.item Y e1 e2 e3 e4 i [] s3 σ3 H3 (fun _ _=>False) I3 (stat fr3) st3 go;rw [← e1,← e2] at tt;refine thn tt fun r s4 ⟨u,hr,h4⟩=>?_;subst hr;refine thn h4 fun _ s5 ⟨x,H5,I5,r5,y5,st5,fr5⟩=>?_;have I5':=I5.pinned (stat fr5) (T.obj _ _ st5);have a6:=hgY _ s5 σ3 H5 x u _ I5' r5 (step x H5 y5);rw [hxe] at a6;refine thn a6 fun _ s6 ⟨σ6,H6,I6,q6⟩=>?_;have a7:=htY _ s6 σ6 H6 _ I6 q6;rw [hxe] at a7;refine thn a7 fun ok s7 ⟨H7,I7,q7⟩=>?_;have again:∀ {H8:Hp} {s8:Shared},Inv Y ([]++zgj fp s5.heap) σ6 H8 s8→N' σ6 H8→∃ m,m < n∧∃ i σ' H',Inv Y [] σ' H' s8∧tn i s8.heap∧(∀ b∈fp,H' b=none)∧W i m σ' H':=fun {H8 s8} I8 n8=>by
    obtain ⟨m',hm,w8⟩:=hN σ6 H8 n8;refine ⟨m',hm,i+1,σ6,H8,I8.unpinned,T.keep _ _ _ st5 fun b hb o e=>(I8.pin (b,o) (mem_append_right _ (mem_append_right _ (zdf hb e)))).1,fun b hb=>?_,w8⟩;obtain ⟨o,e,d⟩:=T.obj _ _ st5 b hb;exact (I8.pin (b,o) (mem_append_right _ (mem_append_right _ (zdf hb e)))).2.1
   cases ok with
   | false =>
     rw [if_neg Bool.false_ne_true] at q7 ⊢;exact again I7 q7
   | true =>
     rw [if_pos rfl] at q7 ⊢;have a8:=heY _ s7 σ6 H7 _ I7 q7;rw [hxe] at a8;refine thn a8 fun y s8 ⟨v,H8,I8,r8,ys,q8,hz8,n8⟩=>?_;have a9:=mt_append (X:=Y) _ s8 σ6 H8 (.ref s.heap.objs.size) [v] (.ref s.heap.objs.size) [y] (fun _ H'=>N' σ6 H') I8 rfl (.cons r8 .nil) ⟨_,ys,v,rfl,rfl,q8,hz8,n8⟩;rw [hxe] at a9;refine thn a9 fun _ s9 ⟨_,H9,I9,_,n9⟩=>?_;exact again I9 n9
 exact codeAny_compStart_list (loop _ rfl) (T.self _ 0 _ _ _ st1 (loop _ rfl))
theorem zix {pins:List (Addr×Obj)} {σ:St} {H H':Hp} {s s':Shared} {h':Heap} {C:Addr} (I:Inv X pins σ H s) (hC:C=s.heap.objs.size+1) (I':Inv X pins σ H' s') (hn:H' C=none) (hs:Heap.SameBut C s'.heap h'):Inv X pins σ H' { s' with heap:=h' }:=by
 have hlt:∀ b:Addr,b < s.heap.objs.size→b≠C:=fun b hb=>by rw [hC];exact Nat.ne_of_lt (lt_succ_of_lt hb)
 refine I'.turned (it:=C) (t':=s'.toks) (fun b o hb e=>(hs.2 b hb).trans e) hn ?_ (.inr ?_) ?_ ?_
 ·exact (hlt _ I.lt).symm
 ·rw [hC];exact Nat.le_succ_of_le I.sz
 ·intro x c e;obtain ⟨v,q⟩:=I.cell x c e;exact hlt _ q.lt
 ·intro p hp;exact hlt _ (Heap.lt_size (I.pin p hp).1)
theorem zba (S:zcX X scope N own js) (hc:X.calm=true) (hi:PI X tg iter wi)
  (hg:∀ cl C s H fp,PG (X.comp scope cl C N s H fp) tg g) (hts:∀ cl C s H fp,PTs (X.comp scope cl C N s H fp) ifs tc) (he:∀ cl C s H fp,PE (X.comp scope cl C N s H fp) elt te)
  (hs:∀ x,foldedSetIterable iter X.env x=pure x:=by intro _;rfl):PE X (.ListComp elt [⟨tg,iter,ifs,0⟩] scope pos) (zhc wi own js g tc te):=by
 intro pins s σ H Q I h;rw [eval_ListComp];refine wpAny_comprehension_free (use:=none) rfl hs (zdK fun x hx hk=>I.ok.has x.1 (S.free x hx hk)) S.kind S.nodup (thn (hi pins s σ H _ I h) fun v s1 h1=>thn h1 fun itv s2 h2=>?_);obtain ⟨it,fp,tn,J,H2,e,I2,T,st2,f2,q⟩:=h2;subst e;refine zfx (RR:=fun acc C=>compPost (model X.prog X.w) X.A X.xe none (EP X pins σ Q) acc C) S hc I2 T st2 f2 hg hts he q ?_;intro p C s' H' m hC hn I' hH' q';exact ⟨m,hn,fun h' hs'=>⟨.ref p,H',zix I2 hC I' hH' hs',rfl,q'⟩⟩
theorem zbD {i:Nat} {y:Str} {py spos:Pos} (hN:X.N.Nodup) (hi':X.N[i]? = some y) (hx:Loc X.env.scope y) (hsw:swapsWith (.ListComp elt [⟨tg,iter,ifs,0⟩] scope pos) (some (.Name y py)) spos.line X.env=pure true)
  (S:zcX X scope N own js) (hc:X.calm=true) (hi:PI X tg iter wi)
  (hg:∀ cl C s H fp,PG (X.comp scope cl C N s H fp) tg g) (hts:∀ cl C s H fp,PTs (X.comp scope cl C N s H fp) ifs tc) (he:∀ cl C s H fp,PE (X.comp scope cl C N s H fp) elt te)
  (hs:∀ x,foldedSetIterable iter X.env x=pure x:=by intro _;rfl) (hf:X.fn y=true∨X.env.scope.names.lookup y=some .local:=by first | exact .inl rfl | exact .inr rfl | assumption) :
  PS X (.Assign [.Name y py] (.ListComp elt [⟨tg,iter,ifs,0⟩] scope pos) spos) (tAsg (zhc wi own js g tc te) (zcS i)):=by
 intro pins s σ H D I h;rw [exec_Assign_Name_used _ _ _ _ hsw];refine wpAny_bind (wpAny_standAt (wpAny_bind ?_));show wpAny _ X.A (do let _ ← comprehension (.ListComp elt [⟨tg,iter,ifs,0⟩] scope pos) scope X.env _ (newList []) false (eval iter X.env) (some (assign (.Name y py) X.env))) _ _ s;refine wpAny_bind (wpAny_mono (wpAny_comprehension_free (use:=some (assign (.Name y py) X.env)) (Q:=fun _ s'=>SP X pins D .next s') rfl hs (zdK fun x hx hk=>I.ok.has x.1 (S.free x hx hk)) S.kind S.nodup
  (thn (hi pins s σ H _ I h) fun v s1 h1=>thn h1 fun itv s2 h2=>?_)) (fun _ s' hq=>wpAny_pure (wpAny_pure hq)) fun _ _ e=>e)
 obtain ⟨it,fp,tn,J,H2,e,I2,T,st2,f2,q⟩:=h2;subst e;refine zfx (Q:=fun x H1=>zcS i x σ H1 D.nx) (RR:=fun acc C=>compPost (model X.prog X.w) X.A X.xe (some (assign (.Name y py) X.env)) (fun _ s'=>SP X pins D .next s') acc C) S hc I2 T st2 f2 hg hts he q ?_;intro p C s' H' m hC hn I' hH' q';show wpAny _ X.A (assign (.Name y py) X.env (.ref p)) _ _ _;refine wpAny_assign_Name (zgh (v:=.ref p) I' hN hi' hx rfl (fun s'' I'' hsb=>?_) hf);obtain ⟨a,hsb,ha⟩:=hsb;have hlt:∀ b:Addr,b < s2.heap.objs.size→b≠C:=fun b hb=>by rw [hC];exact Nat.ne_of_lt (lt_succ_of_lt hb)
 have hne:C≠a:=by
  rcases ha with rfl | ha
  ·exact (hlt _ I2.lt).symm
  ·obtain ⟨v,q⟩:=I2.cell y a ha;exact (hlt _ q.lt).symm
 refine ⟨m,hn.sameBut hsb hne,fun h' hs'=>⟨σ.set i (some (.ref p)),H',?_,q'⟩⟩;refine I''.turned (it:=C) (t':=s''.toks) (fun b o hb e=>(hs'.2 b hb).trans e) hH' ?_ (.inr ?_) ?_ ?_
 ·exact (hlt _ I2.lt).symm
 ·rw [hC];exact Nat.le_succ_of_le I2.sz
 ·intro x c e;obtain ⟨v,q⟩:=I2.cell x c e;exact hlt _ q.lt
 ·intro p hp;exact hlt _ (Heap.lt_size (I2.pin p hp).1)
end
end L2
namespace L2
open PySem PySem.Spec PyProof.Rows
theorem zhd {X:Cx}:zdj X (.builtin "isinstance") (fun xs H Q=>∃ x n t b,xs=[x,.ty n]∧TyOf X.K H x t∧kitOne X.K t (.type n)=some b∧Q (.bl b) H):=by
 intro pins s σ H xs us Q I r h;obtain ⟨x,n,t,b,rfl,ty,e,q⟩:=h;obtain ⟨u,v,rfl,r1,r2⟩:=Vals.two r;have e2:v=Value.type n:=r2;subst e2;exact zjo I r1 ty e fun tk=>⟨.bl b,H,I.tok _,rfl,q⟩
section
variable {X:Cx} {K:PySem.W.Frag}
theorem zaf (h:X.K=K):IxR X (rIxL K):=h▸ix_list
theorem zdL (h:X.K=K):SlR X (rSlL K):=h▸sl_list
theorem zm0 (h:X.K=K):OpR X (compareOp .In) (rIn K false):=h▸op_in_seq
theorem zjE (h:X.K=K):OpR X (compareOp .NotIn) (rIn K true):=h▸op_notIn_seq
def cLen (K:PySem.W.Frag):List V→Hp→VK→Prop:=fun xs H Q=>∃ p ys,xs=[.ref p]∧(SqL K H p ys∨SqT K H p ys)∧Q (.int ys.length) H
theorem zai (h:X.K=K):zdj X (.builtin "len") (cLen K):=h▸call_len_seq
def cIsi (K:PySem.W.Frag):List V→Hp→VK→Prop:=fun xs H Q=>∃ x n t b,xs=[x,.ty n]∧TyOf K H x t∧kitOne K t (.type n)=some b∧Q (.bl b) H
theorem zaP (h:X.K=K):zdj X (.builtin "isinstance") (cIsi K):=h▸zhd
theorem zaI {tg l:Expr} {tl:TE} (h:X.K=K) (hl:PE X l tl):PI X tg l (zkz K tl):=h▸zlJ hl
def zlu (K:PySem.W.Frag) (ta:TE):TT:=fun σ H Q=>ta σ H fun x H'=>∃ k,TruV K x H' k∧Q k H'
theorem zaw {a:Expr} {ta:TE} (h:X.K=K) (ha:PE X a ta) (he:∀ whole,isTrue a X.env whole=(do let v ← whole;standAt a.pos;holding [v] (truthy v))):PT X a (zlu K ta):=h▸zkB ha he
theorem zbK {o e:Expr} {es:List Expr} {to:TE} {t:TA} {name:Str} {apos cpos:Pos} {T id:String} {r:V→List V→Hp→VK→Prop} (h:X.K=K)
  (pa:PlainAttrs T) (slot:Slot T name id) (hty:typeOf (.builtin id)=pure (.type "method_descriptor")) (hm:MtR X id r) (ho:PE X o to) (ha:PA X (e::es) t)
  (hbase:attributeBase o name X.env (eval o X.env)=eval o X.env:=by rfl)
  (hfew:((backTo cpos (starEach (e::es) X.env)).all (fun x=>!x.1) && (backToKw cpos (keywordEach [] X.env)).all (fun x=>x.1.isSome)
   && decide ((e::es).length+([]:List Keyword).length+(if ([]:List Keyword).isEmpty then 0 else 1) < 30))=true:=by rfl)
  (hline:(apos.endLine == cpos.line)=true:=by rfl) (hs:starEach (e::es) X.env=(false,eval e X.env)::starEach es X.env:=by rfl) (hplain:(backTo cpos (starEach es X.env)).any (·.1)=false:=by rfl) :
  PE X (.Call (.Attribute o name apos) (e::es) [] cpos) (tBM K T r to t):=h▸zn7 pa slot hty hm ho ha hbase hfew hline hs hplain
def rAddS:R2:=fun x y H Q=>∃ i j,x=.str i∧y=.str j∧i.length+j.length≤sizeLine∧Q (.str (i++j)) H
def rAddG:R2:=fun x y H Q=>rI0 (fun i j=>.int (i+j)) x y H Q∨rCat x y H Q∨rAddS x y H Q
theorem op_addG:OpR X (binaryOp .Add) rAddG:=op_add.or (op_cat.or op_add_str)
def rNeG (K:PySem.W.Frag):R2:=fun x y H Q=>rNe x y H Q
theorem zm1 (h:X.K=K):OpR X (compareOp .NotEq) (rNeG K):=op_ne
end
def zlv (scope:Scope) (xn:List (Str×NameKind)) (XN N:List Str) (own:Nat) (js:List Nat):Bool :=
 (scope.kind == .function) && scope.names.all (fun y=>y.2 != .cell) && scope.names.all (fun y=>y.2 != .local || scope.names.lookup y.1 == some .local) &&
 scope.names.all (fun y=>y.2 != .free || (xn.lookup y.1 == some .cell || xn.lookup y.1 == some .free)) && (N.length == own+js.length) &&
 (List.range js.length).all (fun i=>(N[own+i]? == XN[js.getD i 0]?) && match XN[js.getD i 0]? with
  | some x=>scope.names.lookup x == some .free && (xn.lookup x == some .cell || xn.lookup x == some .free)
  | none=>true)
theorem zaq {X:Cx} {scope sc:Scope} {XN N:List Str} {own:Nat} {js:List Nat} (hs:X.env.scope=sc) (hN:X.N=XN) (h:zlv scope sc.names XN N own js=true):zcX X scope N own js:=by
 subst hs hN;unfold zlv at h;simp only [Bool.and_eq_true,all_eq_true,beq_iff_eq,bne_iff_ne,Bool.or_eq_true,mem_range] at h;obtain ⟨⟨⟨⟨⟨h1,h2⟩,h3⟩,h4⟩,h5⟩,h6⟩:=h;refine ⟨h1,h2,fun y hy hk=>?_,fun y hy hk=>?_,h5,fun i j hj=>?_⟩
 ·rcases h3 y hy with z | z
  ·exact absurd hk z
  ·exact z
 ·rcases h4 y hy with z | z
  ·exact absurd hk z
  ·exact z
 ·have hi:i < js.length:=(List.getElem?_eq_some_iff.mp hj).1;have e:js.getD i 0=j:=by rw [getD_eq_getElem?_getD,hj];rfl
  obtain ⟨a,b⟩:=h6 i hi;rw [e] at a b;refine ⟨a,fun x hx=>?_⟩;rw [hx] at b;simp only [Bool.and_eq_true,beq_iff_eq,Bool.or_eq_true] at b;obtain ⟨b1,b2⟩:=b;refine ⟨b1,?_,?_⟩
  ·rcases b2 with z | z
   ·exact .inr (.inl z)
   ·exact .inr (.inr z)
  ·intro z;have z':X.env.scope.names.lookup x=some .local:=z;rcases b2 with q | q <;> rw [z'] at q <;> cases q
section
variable {σ σ':St} {H:Hp} {Q:VK} {QT:Bool→Hp→Prop} {QA:List V→Hp→Prop} {i j:Int} {v x y:V} {te ta tb:TE} {tc tc':TT} {tl tr:TA} {t u:TS} {K:PySem.W.Frag} {p:Addr} {xs:List V}
 {nx bk ct:St→Hp→Prop} {rt:VK} {D:Ends} {r r':R2} {n:Nat}
theorem zd3 {i:Nat} (h:σ[i]? = some (some v)) (q:Q v H):tVar i σ H Q:=⟨v,h,q⟩
theorem r_c (q:Q v H):tC v σ H Q:=q
theorem r_op (h:ta σ H fun x H1=>tb σ H1 fun y H2=>r x y H2 Q):tOp r ta tb σ H Q:=h
theorem r_I0 {g:Int→Int→V} (q:Q (g i j) H):rI0 g (.int i) (.int j) H Q:=⟨i,j,rfl,rfl,q⟩
theorem zoa (q:Q (.bl (decide (i=j))) H):rEq (.int i) (.int j) H Q:=⟨rfl,by simpa using q⟩
theorem zob (q:Q (.bl (!decide (i=j))) H):rNe (.int i) (.int j) H Q:=⟨rfl,by simpa using q⟩
theorem zoc {a b:Bool} (q:Q (.bl (decide (a=b))) H):rEq (.bl a) (.bl b) H Q:=⟨rfl,by simpa using q⟩
theorem zeL (h:SqL K H p xs) (e:atI xs i=some v) (q:Q v H):rIxL K (.ref p) (.int i) H Q:=⟨p,xs,i,v,rfl,rfl,h,e,q⟩
theorem r_cb {f:List V→Hp→VK→Prop} (h:tl σ H fun vs H1=>f vs H1 Q):tCB f tl σ H Q:=h
theorem zes (q:QA [] H):tNil σ H QA:=q
theorem zfy (h:ta σ H fun x H1=>tl σ H1 fun xs H2=>QA (x::xs) H2):zgk ta tl σ H QA:=h
theorem zm2 {sp:Sp} {E:XK} (h:tl σ H fun vs H1=>sp vs H1 Q E):zlP sp [] E tl σ H Q:=by
 unfold zlP;simpa only [append_nil] using h
theorem zbk {c:Prop} {A B:Prop} [Decidable c] (h1:c→A) (h2:¬c→B):if decide c=true then A else B:=by
 by_cases h:c
 ·rw [if_pos (decide_eq_true h)];exact h1 h
 ·rw [if_neg (by simpa using h)];exact h2 h
theorem zeM {c:Prop} {A B:Prop} [Decidable c] (h1:¬c→A) (h2:c→B):if (!decide c)=true then A else B:=by
 by_cases h:c
 ·rw [if_neg (by simpa using h)];exact h2 h
 ·rw [if_pos (by simpa using h)];exact h1 h
theorem zm3 {b:Bool} {A B:Prop} (h1:b=true→A) (h2:b=false→B):if b=true then A else B:=by
 cases b with
 | true=>exact h1 rfl
 | false=>exact h2 rfl
theorem zm4 {b:Bool} {A B:Prop} (h1:b=false→A) (h2:b=true→B):if (!b)=true then A else B:=by
 cases b with
 | true=>exact h2 rfl
 | false=>exact h1 rfl
theorem zdg {ns:List Int} {k:Int} (h0:0≤k) (h1:k < ns.length):atI (ns.map V.int) k=some (.int (ns.getD k.toNat 0)):=by
 obtain ⟨n,rfl⟩:=Int.eq_ofNat_of_zero_le h0;have hn:n < ns.length:=by omega
 refine zfQ ?_;rw [getElem?_map,getD_eq_getElem?_getD,Int.toNat_natCast,getElem?_eq_getElem hn];rfl
theorem zkL {ps:List Addr} {k:Int} (h0:0≤k) (h1:k < ps.length):atI (ps.map V.ref) k=some (.ref (ps.getD k.toNat 0)):=by
 obtain ⟨n,rfl⟩:=Int.eq_ofNat_of_zero_le h0;have hn:n < ps.length:=by omega
 refine zfQ ?_;rw [getElem?_map,getD_eq_getElem?_getD,Int.toNat_natCast,getElem?_eq_getElem hn];rfl
def zjF (xs:List V) (H:Hp) (Q:VK):Prop:=xs.length≤sizeLine∧∀ p,H p=none→Q (.ref p) (upd H p (.lst xs))
theorem zod (h:tl σ H fun xs H1=>zjF xs H1 Q):tLst tl σ H Q:=h
theorem r_bm {T:String} {f:V→List V→Hp→VK→Prop} (h:te σ H fun x H1=>tyV K T x H1∧tl σ H1 fun xs H2=>f x xs H2 Q):tBM K T f te tl σ H Q:=h
theorem zm5 (h:ta σ H fun x H1=>∃ c,x=.bl c∧if c=true then tb σ H1 Q else Q (.bl false) H1):zmH ta tb σ H Q:=h
theorem zoe (h:ta σ H fun x H1=>∃ c,x=.bl c∧if c=true then Q (.bl true) H1 else tb σ H1 Q):tOrV ta tb σ H Q:=h
theorem zm6 (h:ta σ H fun x H1=>∃ c,x=.bl c∧Q (.bl (!c)) H1):zmI ta σ H Q:=h
theorem zm7 {b:Bool} {P:Bool→Prop} (h:P b):∃ c,V.bl b=.bl c∧P c:=⟨b,rfl,h⟩
theorem zm8 (h:ta σ H fun x H'=>∃ k,x=.bl k∧QT k H'):zmQ ta σ H QT:=h
theorem r_tB (h:ta σ H fun x H'=>∃ k,x=.bl k∧QT k H'):tB ta σ H QT:=h
theorem zof (h:tc σ H fun c H1=>if c=true then tc' σ H1 QT else QT false H1):tAnd tc tc' σ H QT:=h
theorem r_or (h:tc σ H fun c H1=>if c=true then QT true H1 else tc' σ H1 QT):tOr tc tc' σ H QT:=h
theorem zog (h:tc σ H fun c H1=>QT (!c) H1):tNot tc σ H QT:=h
theorem r_tt (h:QT true H):tTT σ H QT:=h
theorem zjG (h:t ⟨u ⟨nx,rt,bk,ct⟩,rt,bk,ct⟩ σ H):tSeq t u ⟨nx,rt,bk,ct⟩ σ H:=h
theorem zoh (h:te σ H rt):tRet te ⟨nx,rt,bk,ct⟩ σ H:=h
theorem zm9 (h:te σ H fun _ H1=>nx σ H1):zmJ te ⟨nx,rt,bk,ct⟩ σ H:=h
theorem zna (h:nx σ H):tNext ⟨nx,rt,bk,ct⟩ σ H:=h
theorem zoi {i:Nat} (h:te σ H fun x H1=>nx (σ.set i (some x)) H1):tAsg te (zcS i) ⟨nx,rt,bk,ct⟩ σ H:=h
theorem zoj (h:tc σ H fun b H1=>if b=true then t D σ H1 else u D σ H1):tIfS tc t u D σ H:=h
theorem zl0 {i:Nat} {N:St→Hp→Prop} (h:N (σ.set i (some v)) H):zcS i v σ H N:=h
def ForR (lo:Int) (n:Nat) (g:TG) (tb:TS) (D:Ends) (σ:St) (H:Hp):Prop :=
 ∃ W:Nat→Nat→St→Hp→Prop,(∃ m,W 0 m σ H)∧∀ i m σ H,W i m σ H →
  ((Itr lo n).stop i H∧D.nx σ H)∨((Itr lo n).go i H∧∃ N:St→Hp→Prop,(∀ σ' H',N σ' H'→∃ m',m' < m∧W (i+1) m' σ' H')∧∀ x H',(Itr lo n).yld i H x H'→g x σ H' fun σ2 H2=>tb { D with nx:=N,ct:=N,bk:=D.nx } σ2 H2)
theorem znb {g:TG} {tb:TS} (h:tl σ H fun vs H1=>∃ j:Int,vs=[.int j]∧-(2 ^ 62)≤j∧j < 2 ^ 62∧ForR 0 j.toNat g tb D σ H1):tFor (zlK tl) g tb D σ H:=h
theorem znc {g:TG} {tb:TS} (h:tl σ H fun vs H1=>∃ i j:Int,vs=[.int i,.int j]∧(-(2 ^ 62)≤i∧i < 2 ^ 62∧-(2 ^ 62)≤j∧j < 2 ^ 62)∧ForR i (j-i).toNat g tb D σ H1):tFor (zlL tl) g tb D σ H:=h
theorem zb3 {P:Int→Prop} (b1 : -(2 ^ 62)≤i) (b2:i < 2 ^ 62) (h:P i):∃ j:Int,[V.int i]=[.int j]∧-(2 ^ 62)≤j∧j < 2 ^ 62∧P j:=⟨i,rfl,b1,b2,h⟩
theorem zeN {P:Int→Int→Prop} (b : -(2 ^ 62)≤i∧i < 2 ^ 62∧-(2 ^ 62)≤j∧j < 2 ^ 62) (h:P i j):∃ i' j':Int,[V.int i,V.int j]=[.int i',.int j']∧(-(2 ^ 62)≤i'∧i' < 2 ^ 62∧-(2 ^ 62)≤j'∧j' < 2 ^ 62)∧P i' j':=⟨i,j,rfl,b,h⟩
theorem zok (h:SqL K H p xs) (q:Q (.int xs.length) H):cLen K [.ref p] H Q:=⟨p,xs,rfl,.inl h,q⟩
theorem znd {ns:List Int} (h:SqL K H p (ns.map V.int)) (q:Q (.int ns.length) H):cLen K [.ref p] H Q:=⟨p,_,rfl,.inl h,by rw [length_map];exact q⟩
theorem zne {ns:List Addr} (h:SqL K H p (ns.map V.ref)) (q:Q (.int ns.length) H):cLen K [.ref p] H Q:=⟨p,_,rfl,.inl h,by rw [length_map];exact q⟩
theorem zol {T:String} {ty:Value} {b:Bool} (h:TyOf K H x ty) (e:kitOne K ty (.type T)=some b) (q:Q (.bl b) H):cIsi K [x,.ty T] H Q:=⟨x,T,ty,b,rfl,h,e,q⟩
theorem zl1 (h:ta σ H fun x H'=>∃ k,TruV K x H' k∧QT k H'):zlu K ta σ H QT:=h
theorem zl2 {b:Bool} {P:Bool→Prop} (h:P b):∃ k,TruV K (.bl b) H k∧P k:=⟨b,rfl,h⟩
theorem znf (q:Q (.int (i+j)) H):rAddG (.int i) (.int j) H Q:=.inl ⟨i,j,rfl,rfl,q⟩
theorem zlw (q:Q (.bl (!decide (i=j))) H):rNeG K (.int i) (.int j) H Q:=zob q
theorem zb8 {lo:Int} {g:TG} {tb:TS} (Pv:Nat→St→Hp→Prop) (h0:Pv 0 σ H)
  (hs:∀ i σ H,i < n→Pv i σ H→g (.int (lo+i)) σ H fun σ2 H2=>tb ⟨Pv (i+1),rt,nx,Pv (i+1)⟩ σ2 H2) (hd:∀ σ H,Pv n σ H→nx σ H):ForR lo n g tb ⟨nx,rt,bk,ct⟩ σ H :=
 zjg (D:=⟨nx,rt,bk,ct⟩) Pv h0 hs hd
end
end L2
namespace L2
open PySem PySem.Spec PyProof.Rows
section
variable {H:Hp} {Q:VK} {K:PySem.W.Frag} {p:Addr} {xs:List V} {y:V}
theorem zaY {H:Hp} {p:Addr} {o:HO} (hp:H p=none):Same H (upd H p o):=fun b u e=>by
 rw [zaR (zaj e hp)];exact e
def But (p:Addr) (H H':Hp):Prop:=∀ b,b≠p→H' b=H b
theorem But.upd {H:Hp} {p:Addr} {o:HO}:But p H (upd H p o):=fun b h=>zaR h
theorem Same.but {B H H':Hp} {p:Addr} (s:Same B H) (b:But p H H') (hp:B p=none):Same B H':=fun c o e=>by
 rw [b c (zaj e hp)];exact s c o e
theorem zau (hz:xs.length≤1000) (h:∀ p H2,H p=none→Same H H2→H2 p=some (.lst xs)→Q (.ref p) H2):zjF xs H Q :=
 ⟨Nat.le_of_lt (za0 hz),fun p hp=>h p _ hp (zaY hp) zaz⟩
theorem zaM (h:H p=some (.lst xs)) (hz:xs.length≤1000000) (q:∀ H2,But p H H2→H2 p=some (.lst (xs++[y]))→Q .non H2):rAppend (.ref p) [y] H Q:=⟨p,xs,y,rfl,rfl,h,by rw [sizeLine_eq];omega,q _ But.upd zaz⟩
theorem zhV {a b:Addr} {ys:List V} (h:H a=some (.lst xs)) (h':H b=some (.lst ys)) (hz:xs.length+ys.length≤1000) (q:∀ p H2,H p=none→Same H H2→H2 p=some (.lst (xs++ys))→Q (.ref p) H2):rAddG (.ref a) (.ref b) H Q :=
 .inr (.inl ⟨a,b,xs,ys,rfl,rfl,h,h',Nat.le_of_lt (za0 hz),fun p hp=>q p _ hp (zaY hp) zaz⟩)
theorem zjH {c d:Bool} {tb:TT} {σ:St} {QT:Bool→Hp→Prop} (hb:c=true→∀ Q':Bool→Hp→Prop,Q' d H→tb σ H Q') (q:QT (c && d) H):if c=true then tb σ H QT else QT false H:=by
 cases c with
 | false=>exact q
 | true=>exact hb rfl QT q
theorem zom {f:Int→Int→V} {i j:Int} (c:0 < j) (q:Q (f i j) H):rI (fun _ j=>0 < j) f (.int i) (.int j) H Q:=⟨i,j,rfl,rfl,c,q⟩
theorem zon {P:Prop} (h:H p=some (.lst xs)) (q:P):tyV K "list" (.ref p) H∧P:=⟨.inl ⟨rfl,_,SqL.of h⟩,q⟩
end
end L2
namespace L2
open PySem PySem.Spec PyProof.Rows
section
variable {σ:St} {H:Hp} {Q:VK} {K:PySem.W.Frag} {js:List Nat} {te:TE} {tc:TT} {J:It} {n:Nat} {x:Nat→V}
structure Iter (J:It) (n:Nat) (x:Nat→V) (H:Hp):Prop where
 go:∀ i H',Same H H'→i < n→J.go i H'
 yld:∀ i H' v H2,Same H H'→i < n→J.yld i H' v H2→H2=H'∧v=x i
 stop:∀ H',Same H H'→J.stop n H'
theorem zbE (lo:Int) (n:Nat) (H:Hp):Iter (Itr lo n) n (fun i=>.int (lo+i)) H :=
 ⟨fun i H' _ h=>h,fun i H' v H2 _ _ h=>h,fun H' _=>Nat.le_refl n⟩
theorem zbe {a:Addr} {xs:List V} (h:SqL K H a xs):Iter (Itl K a) xs.length (fun i=>xs.getD i .non) H :=
 ⟨fun i H' s hi=>⟨xs,xs[i],s.seq h,getElem?_eq_getElem hi⟩,fun i H' v H2 s hi h'=>⟨h'.1,by
  have:=h'.2 xs (s.seq h);rw [getD_eq_getElem?_getD,this];rfl⟩,fun H' s=>⟨xs,s.seq h,Nat.le_refl _⟩⟩
def zeO (J:It) (js:List Nat) (tc:TT) (te:TE) (σ:St) (H:Hp) (Q:VK):Prop:=∀ p,H p=none →
 ∃ W:Nat→Nat→St→Hp→Prop,(∃ m,W 0 m (capS 1 js σ) (upd H p (.lst [])))∧∀ i m σc H,W i m σc H →
  (J.stop i H∧Q (.ref p) H)∨(J.go i H∧∃ N:St→Hp→Prop,(∀ σ' H',N σ' H'→∃ m',m' < m∧W (i+1) m' σ' H')∧∀ x H',J.yld i H x H' →
   zcS 0 x σc H' fun σ2 H2=>tc σ2 H2 fun b H3=>if b=true then te σ2 H3 fun v H4=>∃ ys,H4 p=some (.lst ys)∧ys.length < sizeLine∧N σ2 (upd H4 p (.lst (ys++[v]))) else N σ2 H3)
theorem zl3 {tl:TA} (h:tl σ H fun vs H1=>∃ j:Int,vs=[.int j]∧-(2 ^ 62)≤j∧j < 2 ^ 62∧zeO (Itr 0 j.toNat) js tc te σ H1 Q):zhc (zlK tl) 1 js (zcS 0) tc te σ H Q:=h
theorem zl4 {tl:TA} (h:tl σ H fun vs H1=>∃ i j:Int,vs=[.int i,.int j]∧(-(2 ^ 62)≤i∧i < 2 ^ 62∧-(2 ^ 62)≤j∧j < 2 ^ 62)∧zeO (Itr i (j-i).toNat) js tc te σ H1 Q):zhc (zlL tl) 1 js (zcS 0) tc te σ H Q:=h
theorem zl6 {tl:TE} (h:tl σ H fun x H1=>∃ a,x=.ref a∧(∃ xs,SqL K H1 a xs)∧zeO (Itl K a) js tc te σ H1 Q):zhc (zkz K tl) 1 js (zcS 0) tc te σ H Q:=h
def capV (js:List Nat) (σ:St):St:=js.map fun j=>(σ[j]?).getD none
theorem zgu (u:Option V) (v:V):(u::capV js σ).set 0 (some v)=some v::capV js σ:=rfl
theorem zey {H H':Hp} {p:Addr} {o:HO} (s:Same H H') (hp:H p=none):Same H (upd H' p o):=fun b u e=>by
 rw [zaR (zaj e hp)];exact s b u e
theorem zcw (it:Iter J n x H) (hz:n < sizeLine) (c:Nat→Bool) (f:Nat→V)
  (ht:∀ i H' Q',i < n→Same H H'→Q' (c i) H'→tc (some (x i)::capV js σ) H' Q')
  (he:∀ i H' Q',i < n→Same H H'→c i=true→Q' (f i) H'→te (some (x i)::capV js σ) H' Q')
  (hq:∀ p,H p=none→Q (.ref p) (upd H p (.lst (((List.range n).filter c).map f)))):zeO J js tc te σ H Q:=by
 intro p hp;refine ⟨fun i m σc H'=>m=n-i∧i≤n∧(∃ u,σc=u::capV js σ)∧H'=upd H p (.lst (((List.range i).filter c).map f)),⟨n,by simp,zero_le _,⟨none,rfl⟩,rfl⟩,?_⟩;rintro i m σc H' ⟨rfl,hi,⟨u,rfl⟩,rfl⟩;have s:∀ o,Same H (upd H p o):=fun o=>zaY hp;have hlen:(((List.range i).filter c).map f).length≤i:=by
  rw [length_map];exact Nat.le_trans (length_filter_le _ _) (by simp)
 by_cases hlt:i < n
 ·refine .inr ⟨it.go i _ (s _) hlt,fun σ' H'=>(∃ u,σ'=u::capV js σ)∧H'=upd H p (.lst (((List.range (i+1)).filter c).map f)),fun σ' H' ⟨h1,h2⟩=>⟨n-(i+1),by omega,rfl,hlt,h1,h2⟩,fun v H2 hy=>?_⟩;obtain ⟨rfl,rfl⟩:=it.yld i _ v H2 (s _) hlt hy;show tc ((u::capV js σ).set 0 (some (x i))) _ _;rw [zgu];have e:(List.range (i+1)).filter c=(List.range i).filter c++if c i=true then [i] else []:=by
   rw [range_succ,filter_append]
   cases hc:c i <;> simp [hc]
  refine ht i _ _ hlt (s _) ?_
  cases hc:c i with
  | false =>
    rw [if_neg Bool.false_ne_true];refine ⟨⟨_,rfl⟩,?_⟩;rw [e,hc];simp
  | true =>
    rw [if_pos rfl];refine he i _ _ hlt (s _) hc ⟨_,zaz,by omega,⟨_,rfl⟩,?_⟩;rw [zlG,e,hc];simp
 ·have e:i=n:=by omega
  subst e;exact .inl ⟨it.stop _ (s _),hq p hp⟩
theorem ziy (it:Iter J n x H) (hz:n < sizeLine) (f:Nat→List V)
  (he:∀ i H' Q',i < n→Same H H'→(∀ q,H' q=none→Q' (.ref q) (upd H' q (.lst (f i))))→te (some (x i)::capV js σ) H' Q')
  (hq:∀ p (ps:List Addr) H',H p=none→Same H H'→ps.length=n→H' p=some (.lst (ps.map V.ref))→(∀ i,i < n→H' (ps.getD i 0)=some (.lst (f i))∧H (ps.getD i 0)=none∧ps.getD i 0≠p)→ps.Nodup→Q (.ref p) H'):zeO J js tTT te σ H Q:=by
 intro p hp;refine ⟨fun i m σc H'=>m=n-i∧i≤n∧(∃ u,σc=u::capV js σ)∧∃ ps:List Addr,Same H H'∧ps.length=i∧H' p=some (.lst (ps.map V.ref))∧(∀ j,j < i→H' (ps.getD j 0)=some (.lst (f j))∧H (ps.getD j 0)=none∧ps.getD j 0≠p)∧ps.Nodup,⟨n,by simp,zero_le _,⟨none,rfl⟩,[],zaY hp,rfl,zaz,fun j hj=>absurd hj (by omega),nodup_nil⟩,?_⟩;rintro i m σc H' ⟨rfl,hi,⟨u,rfl⟩,ps,s,hl,hpp,hall,nd⟩
 by_cases hlt:i < n
 ·refine .inr ⟨it.go i _ s hlt,fun σ' H'=>(∃ u,σ'=u::capV js σ)∧∃ ps:List Addr,Same H H'∧ps.length=i+1∧H' p=some (.lst (ps.map V.ref))∧(∀ j,j < i+1→H' (ps.getD j 0)=some (.lst (f j))∧H (ps.getD j 0)=none∧ps.getD j 0≠p)∧ps.Nodup,
   fun σ' H' ⟨h1,h2⟩=>⟨n-(i+1),by omega,rfl,hlt,h1,h2⟩,fun v H2 hy=>?_⟩
  obtain ⟨rfl,rfl⟩:=it.yld i _ v H2 s hlt hy;show te ((u::capV js σ).set 0 (some (x i))) _ _;rw [zgu];refine he i _ _ hlt s fun q hq0=>?_;have hqp:p≠q:=zaj hpp hq0;have hHq:H q=none:=s.free hq0;refine ⟨ps.map V.ref,by rw [zaR hqp];exact hpp,by rw [length_map];omega,⟨_,rfl⟩,ps++[q],?_,by rw [length_append,hl];rfl,by rw [zaz,map_append];rfl,fun j hj=>?_,?_⟩
  ·exact zey (zey s hHq) hp
  ·by_cases hji:j < i
   ·obtain ⟨a1,a2,a3⟩:=hall j hji;have e:(ps++[q]).getD j 0=ps.getD j 0:=by
     rw [getD_eq_getElem?_getD,getD_eq_getElem?_getD,List.getElem?_append_left (by omega)]
    rw [e];refine ⟨?_,a2,a3⟩;rw [zaR a3,zaR (zaj a1 hq0)];exact a1
   ·have e0:j=i:=by omega
    subst e0;have e:(ps++[q]).getD j 0=q:=by
     rw [getD_eq_getElem?_getD,getElem?_append_right (by omega)];simp [hl]
    rw [e];refine ⟨?_,hHq,hqp.symm⟩;rw [zaR hqp.symm,zaz]
  ·refine nodup_append.mpr ⟨nd,by simp,fun a ha b hb=>?_⟩;have hb':b=q:=by simpa using hb
   subst hb';obtain ⟨k,hk,e⟩:=getElem_of_mem ha;have e2:ps.getD k 0=a:=by rw [getD_eq_getElem?_getD,getElem?_eq_getElem hk,e];rfl
   have:=(hall k (by omega)).1;rw [e2] at this;exact zaj this hq0
 ·have e:i=n:=by omega
  subst e;exact .inl ⟨it.stop _ s,hq p ps H' hp s hl hpp hall nd⟩
def ForI (J:It) (g:TG) (tb:TS) (D:Ends) (σ:St) (H:Hp):Prop :=
 ∃ W:Nat→Nat→St→Hp→Prop,(∃ m,W 0 m σ H)∧∀ i m σ H,W i m σ H →
  (J.stop i H∧D.nx σ H)∨(J.go i H∧∃ N:St→Hp→Prop,(∀ σ' H',N σ' H'→∃ m',m' < m∧W (i+1) m' σ' H')∧∀ x H',J.yld i H x H'→g x σ H' fun σ2 H2=>tb { D with nx:=N,ct:=N,bk:=D.nx } σ2 H2)
theorem zng {tl:TE} {g:TG} {tb:TS} {D:Ends} (h:tl σ H fun x H1=>∃ a,x=.ref a∧(∃ xs,SqL K H1 a xs)∧ForI (Itl K a) g tb D σ H1):tFor (zkz K tl) g tb D σ H:=h
theorem zaT {a:Addr} {P:Addr→Prop} {xs:List V} (h:SqL K H a xs) (q:P a):∃ b,V.ref a=.ref b∧(∃ xs,SqL K H b xs)∧P b:=⟨a,rfl,⟨xs,h⟩,q⟩
theorem zbL {a:Addr} {xs:List V} {g:TG} {tb:TS} {nx bk ct:St→Hp→Prop} {rt:VK} (Pv:Nat→St→Hp→Prop) (h0:Pv 0 σ H) (hl:∀ i σ H,i≤xs.length→Pv i σ H→SqL K H a xs)
  (hs:∀ i x σ H,xs[i]? = some x→Pv i σ H→g x σ H fun σ2 H2=>tb ⟨Pv (i+1),rt,nx,Pv (i+1)⟩ σ2 H2) (hd:∀ σ H,Pv xs.length σ H→nx σ H):ForI (Itl K a) g tb ⟨nx,rt,bk,ct⟩ σ H :=
 zkA (D:=⟨nx,rt,bk,ct⟩) Pv h0 hl hs hd
theorem zkM {xs ys:List Int} (hl:xs.length=ys.length) (h:∀ j,j < xs.length→xs.getD j 0=ys.getD j 0):xs=ys:=by
 refine ext_getElem hl fun i h1 h2=>?_;have:=h i h1;rw [getD_eq_getElem?_getD,getD_eq_getElem?_getD,getElem?_eq_getElem h1,getElem?_eq_getElem h2] at this;exact this
theorem zdM (it:Iter J n x H) (hz:n≤1000) (f:Nat→Int)
  (he:∀ i H' Q',i < n→Same H H'→Q' (.int (f i)) H'→te (some (x i)::capV js σ) H' Q')
  (hq:∀ p H2,H p=none→Same H H2→H2 p=some (.lst (((List.range n).map f).map V.int))→Q (.ref p) H2):zeO J js tTT te σ H Q:=by
 refine zcw it (za0 hz) (fun _=>true) (fun i=>.int (f i)) (fun i H' Q' _ _ q=>q) (fun i H' Q' hi s _ q=>he i H' Q' hi s q) fun p hp=>hq p _ hp (zaY hp) ?_;rw [zaz,filter_eq_self.mpr (fun _ _=>rfl),map_map];rfl
theorem zeP (it:Iter J n x H) (hz:n≤1000) (c:Nat→Bool) (f:Nat→Int)
  (ht:∀ i H' Q',i < n→Same H H'→Q' (c i) H'→tc (some (x i)::capV js σ) H' Q')
  (he:∀ i H' Q',i < n→Same H H'→c i=true→Q' (.int (f i)) H'→te (some (x i)::capV js σ) H' Q')
  (hq:∀ p H2,H p=none→Same H H2→H2 p=some (.lst ((((List.range n).filter c).map f).map V.int))→Q (.ref p) H2):zeO J js tc te σ H Q:=by
 refine zcw it (za0 hz) c (fun i=>.int (f i)) ht (fun i H' Q' hi s hc q=>he i H' Q' hi s hc q) fun p hp=>hq p _ hp (zaY hp) ?_;rw [zaz,map_map];rfl
end
end L2
namespace L2
open PySem PySem.Spec PyProof.Rows
def LL (K:PySem.W.Frag) (H:Hp) (a:Addr) (rs:LI):Prop :=
 ∃ ps:List Addr,SqL K H a (ps.map V.ref)∧ps.length=rs.length∧∀ i,i < rs.length→H (ps.getD i 0)=some (.lst ((rs.getD i []).map V.int))
theorem LL.same {K:PySem.W.Frag} {H H':Hp} {a:Addr} {rs:LI} (h:LL K H a rs) (s:Same H H'):LL K H' a rs:=by
 obtain ⟨ps,h1,h2,h3⟩:=h;exact ⟨ps,s.seq h1,h2,fun i hi=>s _ _ (h3 i hi)⟩
structure RowsAt (B:Hp) (p:Addr) (rs:LI) (H:Hp):Prop where
 same:Same B H
 new:B p=none
 rows:∃ ps:List Addr,H p=some (.lst (ps.map V.ref))∧ps.length=rs.length∧ps.Nodup∧∀ i,i < rs.length→H (ps.getD i 0)=some (.lst ((rs.getD i []).map V.int))∧B (ps.getD i 0)=none∧ps.getD i 0≠p
theorem RowsAt.start {B H:Hp} {p:Addr} (hp:B p=none) (s:Same B H) (e:H p=some (.lst [])):RowsAt B p [] H :=
 ⟨s,hp,[],e,rfl,nodup_nil,fun i hi=>absurd hi (by simp)⟩
theorem zaB {α:Type} {xs ys:List α} {d:α} {i:Nat} (h:i < xs.length):(xs++ys).getD i d=xs.getD i d:=by
 rw [getD_eq_getElem?_getD,getD_eq_getElem?_getD,List.getElem?_append_left h]
theorem zaC {α:Type} {xs:List α} {y d:α}:(xs++[y]).getD xs.length d=y:=by
 rw [getD_eq_getElem?_getD,getElem?_append_right (Nat.le_refl _)];simp
theorem mem_getD {α:Type} {xs:List α} {d a:α} (h:a∈xs):∃ i,i < xs.length∧xs.getD i d=a:=by
 obtain ⟨k,hk,e⟩:=getElem_of_mem h;exact ⟨k,hk,by rw [getD_eq_getElem?_getD,getElem?_eq_getElem hk,e];rfl⟩
theorem RowsAt.push {B H H2 H3:Hp} {p q:Addr} {rs:LI} {r:List Int} {zs:List V} (R:RowsAt B p rs H) (hq:H q=none) (s:Same H H2) (e:H2 q=some (.lst (r.map V.int))) (hz:H2 p=some (.lst zs)) (b:But p H2 H3) (e3:H3 p=some (.lst (zs++[.ref q]))):RowsAt B p (rs++[r]) H3:=by
 obtain ⟨sb,hp,ps,h1,h2,nd,h3⟩:=R;have ez:zs=ps.map V.ref:=by
  have:=s p _ h1;rw [hz] at this;exact (HO.lst.inj (Option.some.inj this))
 subst ez;have hBq:B q=none:=sb.free hq;have hqp:q≠p:=(zaj h1 hq).symm;refine ⟨(sb.trans s).but b hp,hp,ps++[q],by rw [e3,map_append];rfl,by simp [h2],?_,fun i hi=>?_⟩
 ·refine nodup_append.mpr ⟨nd,by simp,fun a ha c hc=>?_⟩;have hc':c=q:=by simpa using hc
  subst hc';obtain ⟨k,hk,ek⟩:=mem_getD (d:=0) ha;have:=(h3 k (by omega)).1;rw [ek] at this;exact zaj this hq
 ·rw [length_append,length_singleton] at hi
  by_cases hlt:i < rs.length
  ·obtain ⟨a1,a2,a3⟩:=h3 i hlt;rw [zaB (by omega),zaB hlt];refine ⟨?_,a2,a3⟩;rw [b _ a3];exact s _ _ a1
  ·have ei:i=rs.length:=by omega
   subst ei;rw [zaC,← h2,zaC];refine ⟨?_,hBq,hqp⟩;rw [b _ hqp];exact e
theorem RowsAt.ll {K:PySem.W.Frag} {B H:Hp} {p:Addr} {rs:LI} (R:RowsAt B p rs H):LL K H p rs:=by
 obtain ⟨sb,hp,ps,h1,h2,nd,h3⟩:=R;exact ⟨ps,SqL.of h1,h2,fun i hi=>(h3 i hi).1⟩
theorem RowsAt.lst {B H:Hp} {p:Addr} {rs:LI} (R:RowsAt B p rs H):∃ zs:List V,H p=some (.lst zs)∧zs.length=rs.length:=by
 obtain ⟨sb,hp,ps,h1,h2,nd,h3⟩:=R;exact ⟨_,h1,by rw [length_map,h2]⟩
theorem zaD {α:Type} {f:Nat→α} {n i:Nat} {d:α} (h:i < n):((List.range n).map f).getD i d=f i:=by
 rw [getD_eq_getElem?_getD,getElem?_map,List.getElem?_range h];rfl
theorem zgv {xs ys:LI} (hl:xs.length=ys.length) (h:∀ j,j < xs.length→xs.getD j []=ys.getD j []):xs=ys:=by
 refine ext_getElem hl fun i h1 h2=>?_;have:=h i h1;rw [getD_eq_getElem?_getD,getD_eq_getElem?_getD,getElem?_eq_getElem h1,getElem?_eq_getElem h2] at this;exact this
end L2
namespace L2
open PySem PySem.Spec PyProof.Rows
section
variable {X:Cx} {tg:Expr}
end
section
variable {σ:St} {H:Hp} {i j:Int} {D:Ends} {nx bk ct:St→Hp→Prop} {rt:VK} {n:Nat} {Q:VK}
end
end L2
namespace L2
open PySem PySem.Spec PyProof.Rows
section
variable {X:Cx} {pins:List (Addr×Obj)} {σ:St} {H:Hp} {s:Shared} {h':Heap}
theorem Inv.turnedNew {ch:List Addr} {T:Addr} {o:HO} {t':Nat} (I:Inv X pins σ H s) (k:∀ b ob,b∉ch→s.heap.get? b=some ob→h'.get? b=some ob) (hf:∀ b∈ch,FpOk X pins H b∧∃ ob,h'.get? b=some ob) (hT:s.heap.objs.size≤T)
  (new:zbV X.prog X.w (upd H T o) h' T o):Inv X pins σ (upd H T o) { s with heap:=h',toks:=t' }:=by
 have hn:H T=none:=I.hok.fresh hT;have ne:∀ b ob,s.heap.get? b=some ob→b≠T:=fun b ob e=>Nat.ne_of_lt (Nat.lt_of_lt_of_le (Heap.lt_size e) hT);have nch:∀ b u,H b=some u→b∉ch:=fun b u e z=>by rw [(hf b z).1.1] at e;cases e
 refine I.step (g':=s.gens) (d':=s.drawn) (ch:=ch) (fun b hb=>?_) (fun b ob _ _ hc e _=>k b ob hc e) (fun b ob _ _ hc e _=>⟨ob.slots,k b ob hc e⟩) (fun b ob _ e n=>by rw [zaR (ne b ob e)];exact n)
  (fun b ob hc e=>⟨ob,k b ob hc e⟩) (fun b xs e=>by rw [zaR (zaj e hn)];exact e) (fun b ob u e=>by rw [zaR (zaj e hn)];exact e) (fun b ps e=>⟨#[],by rw [zaR (zaj e hn),e];simp⟩) (fun m hm=>?_) (fun b u e=>?_) I.bare
 ·obtain ⟨⟨f0,f1,f2,f3,f4,f5⟩,_⟩:=hf b hb;exact ⟨f3,f1,f4,f5⟩
 ·obtain ⟨ob,es,ep,ho,r⟩:=hm;exact ⟨ob,es,ep,k _ ob (fun z=>(hf _ z).1.2.1 rfl) ho,r⟩
 ·by_cases hb:b=T
  ·subst hb;rw [zaz] at e;cases e;exact new
  ·rw [zaR hb] at e;refine (I.hok b u e).stay (fun c v hc q=>k c v ?_ q) (fun c q=>by rw [zaR (zaj q hn)];exact q) fun c xs q=>by rw [zaR (zaj q hn)];exact q
   rcases hc with z | z
   ·rw [z];exact nch b u e
   ·exact nch c _ z
theorem Inv.turnedL {ch:List Addr} {t':Nat} (I:Inv X pins σ H s) (k:∀ b ob,b∉ch→s.heap.get? b=some ob→h'.get? b=some ob) (hf:∀ b∈ch,FpOk X pins H b):Inv X pins σ H { s with heap:=h',toks:=t' }:=by
 have nch:∀ b u,H b=some u→b∉ch:=fun b u e z=>by rw [(hf b z).1] at e;cases e
 refine I.step (g':=s.gens) (d':=s.drawn) (ch:=ch) (fun b hb=>?_) (fun b ob _ _ hc e _=>k b ob hc e) (fun b ob _ _ hc e _=>⟨ob.slots,k b ob hc e⟩) (fun b ob _ e n=>n)
  (fun b ob hc e=>⟨ob,k b ob hc e⟩) (fun b xs e=>e) (fun b ob u e=>e) (fun b ps e=>⟨#[],by rw [e];simp⟩) (fun m hm=>?_) (fun b u e=>?_) I.bare
 ·obtain ⟨f0,f1,f2,f3,f4,f5⟩:=hf b hb;exact ⟨f3,f1,f4,f5⟩
 ·obtain ⟨ob,es,ep,ho,r⟩:=hm;exact ⟨ob,es,ep,k _ ob (fun z=>(hf _ z).2.1 rfl) ho,r⟩
 ·refine (I.hok b u e).stay (fun c v hc q=>k c v ?_ q) (fun c q=>q) fun c xs q=>q;rcases hc with z | z
  ·rw [z];exact nch b u e
  ·exact nch c _ z
end
def Itz (K:PySem.W.Frag) (a b:Addr):It :=
 ⟨fun i H=>∃ xs ys x y,SqL K H a xs∧SqL K H b ys∧xs[i]? = some x∧ys[i]? = some y,
  fun i H v H'=>∃ T,H T=none∧v=.ref T∧∀ xs ys,SqL K H a xs→SqL K H b ys→∃ x y,xs[i]? = some x∧ys[i]? = some y∧H'=upd H T (.tup [x,y]),
  fun i H=>∃ xs ys,SqL K H a xs∧SqL K H b ys∧(xs.length≤i∨ys.length≤i)⟩
theorem zkN {P:Program} {w:World} {K:PySem.W.Frag} {elts:List Expr} {x1:Nat} {tpos:Pos} {l1 l2 z TI TO i1 i2:Addr} (D:ZipApart z TI TO i1 i2 l1 l2) :
  Turn P w K (.Tuple elts x1 tpos) (Itz K l1 l2) [z,TI,TO,i1,i2] z (fun i h=>IsZip h z TI TO .none∧IsPair h TI (.ref i1) (.ref i2)∧(∃ a b,IsPair h TO a b)∧h.IsListIter i1 l1 i∧h.IsListIter i2 l2 i) where
 mem:=by simp
 obj:=fun i h st b hb=>by
  obtain ⟨h1,h2,⟨_,_,h3⟩,⟨o4,h4,c4,d4⟩,⟨o5,h5,c5,d5⟩⟩:=st;simp only [mem_cons,not_mem_nil,or_false] at hb;rcases hb with rfl | rfl | rfl | rfl | rfl
  ·exact ⟨_,h1,fun v z=>by cases z⟩
  ·exact ⟨_,h2,fun v z=>by cases z⟩
  ·exact ⟨_,h3,fun v z=>by cases z⟩
  ·exact ⟨_,h4,fun v z=>by rw [d4] at z;cases z⟩
  ·exact ⟨_,h5,fun v z=>by rw [d5] at z;cases z⟩
 keep:=fun i h h' st k=>by
  obtain ⟨h1,h2,⟨a,b,h3⟩,h4,h5⟩:=st;exact ⟨k z (by simp) _ h1,k TI (by simp) _ h2,⟨a,b,k TO (by simp) _ h3⟩,h4.at fun o e=>k i1 (by simp) o e,h5.at fun o e=>k i2 (by simp) o e⟩
 item:=by
  intro X hP hw hK hc i pins s σ H E I hf st hg;subst hP hw hK;obtain ⟨xs,ys,x,y,hq1,hq2,hx,hy⟩:=hg;obtain ⟨its1,rv1,p1,hz1⟩:=I.list hq1;obtain ⟨its2,rv2,p2,hz2⟩:=I.list hq2;obtain ⟨u1,hu1,ru1⟩:=rv1.get hx;obtain ⟨u2,hu2,ru2⟩:=rv2.get hy;obtain ⟨g1,g2,⟨ta,tb,g3⟩,g4,g5⟩:=st;refine wpAny_pyNext_zip_item D g1 g2 g3 g4 g5 p1.isList p2.isList (x:=u1) (y:=u2) (by simpa using hu1) (by simpa using hu2) fun h' a1 a2 a3 a4 a5 a6 hk=>?_;refine ⟨_,rfl,?_⟩;refine wpAny_letOwnedTupleGo_zip a1 fun h2 b1 hs2=>?_;have hTn:H s.heap.objs.size=none:=I.hok.fresh (Nat.le_refl _);have ltz:∀ b∈[z,TI,TO,i1,i2],b≠s.heap.objs.size:=fun b hb=>by
   obtain ⟨⟨o,e⟩⟩:∃ o,s.heap.get? b=some o:=by
    obtain ⟨o4,e4,_⟩:=g4;obtain ⟨o5,e5,_⟩:=g5;simp only [mem_cons,not_mem_nil,or_false] at hb;rcases hb with rfl | rfl | rfl | rfl | rfl
    ·exact ⟨_,g1⟩
    ·exact ⟨_,g2⟩
    ·exact ⟨_,g3⟩
    ·exact ⟨_,e4⟩
    ·exact ⟨_,e5⟩
   exact Nat.ne_of_lt (Heap.lt_size ‹_›)
  have keep:∀ b ob,b∉[z,TO,i1,i2]→s.heap.get? b=some ob→h2.get? b=some ob:=fun b ob hb e=>by
   simp only [mem_cons,not_mem_nil,or_false,not_or] at hb;obtain ⟨n1,n2,n3,n4⟩:=hb;exact hs2.extBut b ob n1 (hk b ob n1 n2 n3 n4 e)
  have pT:IsPair h2 s.heap.objs.size u1 u2:=hs2.extBut _ _ (ltz z (by simp)).symm a5;have c4:h2.IsListIter i1 l1 (i+1):=a3.extBut hs2.extBut D.i1z;have c5:h2.IsListIter i2 l2 (i+1):=a4.extBut hs2.extBut D.i2z;have c3:IsPair h2 TO u1 u2:=hs2.extBut _ _ D.TOz a2;have c2:IsPair h2 TI (.ref i1) (.ref i2):=hs2.extBut _ _ D.TIz (hk _ _ D.TIz D.TITO D.TIi1 D.TIi2 g2);refine ⟨.ref s.heap.objs.size,upd H s.heap.objs.size (.tup [x,y]),?_,rfl,⟨_,hTn,rfl,fun xs' ys' q1' q2'=>?_⟩,⟨b1,c2,⟨_,_,c3⟩,c4,c5⟩,fun b hb=>?_⟩
  ·refine I.turnedNew (t':=s.toks) (ch:=[z,TO,i1,i2]) keep (fun b hb=>⟨hf b ?_,?_⟩) (Nat.le_refl _) ?_
   ·simp only [mem_cons,not_mem_nil,or_false] at hb ⊢;rcases hb with rfl | rfl | rfl | rfl <;> simp
   ·obtain ⟨o4,e4,_⟩:=c4;obtain ⟨o5,e5,_⟩:=c5;simp only [mem_cons,not_mem_nil,or_false] at hb;rcases hb with rfl | rfl | rfl | rfl
    ·exact ⟨_,b1⟩
    ·exact ⟨_,c3⟩
    ·exact ⟨_,e4⟩
    ·exact ⟨_,e5⟩
   ·exact ⟨by show 2≤sizeLine;rw [sizeLine_eq];decide,[u1,u2],.cons ru1 (.cons ru2 .nil),_,pT,rfl,_,rfl⟩
  ·rw [I.list_inj q1' hq1,I.list_inj q2' hq2];exact ⟨x,y,hx,hy,rfl⟩
  ·rw [zaR (ltz b hb)];exact (hf b hb).1
 done:=by
  intro X hP hw hK hc i pins s σ H E I hf st hg;subst hP hw hK;obtain ⟨xs,ys,hq1,hq2,hx⟩:=hg;obtain ⟨its1,rv1,p1,hz1⟩:=I.list hq1;obtain ⟨its2,rv2,p2,hz2⟩:=I.list hq2;obtain ⟨g1,g2,⟨ta,tb,g3⟩,g4,g5⟩:=st;have hl1:=rv1.length;have hl2:=rv2.length;refine wpAny_pyNext_zip_end (I.ok.hd hc) D g1 g2 g3 g4 g5 p1.isList p2.isList ?_ fun h' hk=>⟨rfl,I.turnedL (t':=s.toks) (ch:=[z,TI,TO,i1,i2]) (fun b ob hb e=>?_) hf⟩
  ·rcases hx with hx | hx
   ·exact .inl (Array.getElem?_eq_none (by simp;omega))
   ·exact .inr (Array.getElem?_eq_none (by simp;omega))
  ·simp only [mem_cons,not_mem_nil,or_false,not_or] at hb;obtain ⟨n1,n2,n3,n4,n5⟩:=hb;exact hk b ob n1 n3 n4 n5 e
 self:=fun _ _ _ _ _ st h=>wpAny_pyIter_zip st.1 h
section
variable {X:Cx} {K:PySem.W.Frag}
def iZip (K:PySem.W.Frag) (ta:TA):TI:=fun σ H R=>ta σ H fun vs H1=>∃ a b xs ys,vs=[.ref a,.ref b]∧SqL K H1 a xs∧SqL K H1 b ys∧R (Itz K a b) H1
theorem zjI {a b:Expr} {ta:TA} {p pos tpos:Pos} {elts:List Expr} {x1:Nat} (hK:X.K=K) (hg:Gl X "zip") (hm:X.mg "zip"=none) (ha:PA X [a,b] ta) (hs:starEach [a,b] X.env=(false,eval a X.env)::starEach [b] X.env:=by rfl)
  (hs2:(backTo pos (starEach [b] X.env)).any (·.1)=false:=by rfl):PI X (.Tuple elts x1 tpos) (.Call (.Name "zip" p) [a,b] [] pos) (iZip K ta):=by
 subst hK;intro pins s σ H R I h;refine Call_ (zeE I hg hm boot_zip (PyProof.Rows.callWith_type1 (thn (ha pos pins s σ H _ I h) fun us s1 ⟨vs,H1,I1,r1,q1⟩=>?_) hs hs2));obtain ⟨l1,l2,xs,ys,e,q1,q2,q⟩:=q1;subst e;obtain ⟨v1,v2,rfl,r1,r2⟩:=Vals.two r1
 cases r1
 cases r2
 obtain ⟨its1,rv1,p1,hz1⟩:=I1.list q1;obtain ⟨its2,rv2,p2,hz2⟩:=I1.list q2;refine call_zip_2 p1.isList p2.isList fun h' hz hTI hTO hi1 hi2 hsz hk=>?_;refine wpAny_pyIter_zip hz ?_;obtain ⟨o1,e1,_⟩:=p1.isList;obtain ⟨o2,e2,_⟩:=p2.isList;have L1:=Heap.lt_size e1;have L2:=Heap.lt_size e2;have I2:Inv X pins σ H1 { s1 with heap:=h' }:=I1.kept (t':=s1.toks) hk;have nn:∀ k l:Nat,k≠l→s1.heap.objs.size+k≠s1.heap.objs.size+l:=fun k l hkl z=>hkl (Nat.add_left_cancel z);have n0:∀ k:Nat,0 < k→s1.heap.objs.size≠s1.heap.objs.size+k:=fun k hk=>by omega
 have D:ZipApart (s1.heap.objs.size+4) (s1.heap.objs.size+2) (s1.heap.objs.size+3) s1.heap.objs.size (s1.heap.objs.size+1) l1 l2:=by
  have m1:∀ k:Nat,l1≠s1.heap.objs.size+k:=fun k=>Nat.ne_of_lt (Nat.lt_of_lt_of_le L1 (le_add_right _ _));have m2:∀ k:Nat,l2≠s1.heap.objs.size+k:=fun k=>Nat.ne_of_lt (Nat.lt_of_lt_of_le L2 (le_add_right _ _));exact ⟨nn 2 4 (by decide),nn 3 4 (by decide),n0 4 (by decide),nn 1 4 (by decide),nn 2 3 (by decide),(n0 2 (by decide)).symm,nn 2 1 (by decide),(n0 3 (by decide)).symm,nn 3 1 (by decide),n0 1 (by decide),m1 4,m1 3,m1 0,m1 1,m2 4,m2 3,m2 0,m2 1⟩
 refine ⟨s1.heap.objs.size+4,_,_,Itz X.K l1 l2,H1,rfl,I2,zkN D,⟨hz,hTI,⟨_,_,hTO⟩,hi1,hi2⟩,fun b hb=>?_,q⟩;have hge:s1.heap.objs.size≤b:=by
  simp only [mem_cons,not_mem_nil,or_false] at hb;rcases hb with rfl | rfl | rfl | rfl | rfl
  ·exact le_add_right _ _
  ·exact le_add_right _ _
  ·exact le_add_right _ _
  ·exact Nat.le_refl _
  ·exact le_add_right _ _
 exact I1.fpOk hge (I1.hok.fresh hge)
theorem zfT {es:List Expr} {k:Nat} {t:TGs} {n:Nat} {pos:Pos} (hK:X.K=K) (hc:X.calm=true) (h:PGs X es t)
  (hn:(assignEach es X.env).length=n:=by rfl) (hst:(assignEach es X.env).findIdx? (·.1)=none:=by rfl):PG X (.Tuple es k pos) (gTup K n t):=hK▸zmK hc h hn hst
end
section
variable {σ:St} {H:Hp} {D:Ends} {nx bk ct:St→Hp→Prop} {rt:VK} {K:PySem.W.Frag} {Q:VK}
theorem zjJ {a b:Addr} {xs ys:List V} {P:Addr→Addr→Prop} (h1:SqL K H a xs) (h2:SqL K H b ys) (q:P a b):∃ a' b' xs ys,[V.ref a,V.ref b]=[.ref a',.ref b']∧SqL K H a' xs∧SqL K H b' ys∧P a' b':=⟨a,b,xs,ys,rfl,h1,h2,q⟩
end
theorem znh {b:Bool} {t u:TS} {nx bk ct:St→Hp→Prop} {rt:VK} {σ:St} {H:Hp} (M:St→Hp→Prop) (h1:b=true→∀ nx':St→Hp→Prop,(∀ σ' H',M σ' H'→nx' σ' H')→t ⟨nx',rt,bk,ct⟩ σ H)
  (h2:b=false→∀ nx':St→Hp→Prop,(∀ σ' H',M σ' H'→nx' σ' H')→u ⟨nx',rt,bk,ct⟩ σ H) (rest:∀ σ' H',M σ' H'→nx σ' H'):if b=true then t ⟨nx,rt,bk,ct⟩ σ H else u ⟨nx,rt,bk,ct⟩ σ H:=by
 cases b with
 | true=>exact h1 rfl nx rest
 | false=>exact h2 rfl nx rest
theorem zdw {t u:TS} {nx bk ct:St→Hp→Prop} {rt:VK} {σ:St} {H:Hp} (M:St→Hp→Prop) (h1:∀ nx':St→Hp→Prop,(∀ σ' H',M σ' H'→nx' σ' H')→t ⟨nx',rt,bk,ct⟩ σ H)
  (h2:∀ σ' H',M σ' H'→u ⟨nx,rt,bk,ct⟩ σ' H'):tSeq t u ⟨nx,rt,bk,ct⟩ σ H:=h1 _ h2
section
variable {X:Cx} {K:PySem.W.Frag}
def eqVs:List V→List V→Bool
 | [],[]=>true
 | x::xs,y::ys=>eqV x y && eqVs xs ys
 | _,_=>false
theorem eqVs_len:∀ {xs ys:List V},xs.length≠ys.length→eqVs xs ys=false
 | [],[],h=>absurd rfl h
 | [],_::_,_=>rfl
 | _::_,[],_=>rfl
 | x::xs,y::ys,h=>by
   unfold eqVs;rw [eqVs_len (xs:=xs) (ys:=ys) (fun e=>h (by simp [e])),Bool.and_false]
theorem eqVs_all:∀ {xs ys:List V},xs.length=ys.length→(List.range xs.length).all (fun j=>eqV (xs.getD j .non) (ys.getD j .non))=eqVs xs ys
 | [],[],_=>rfl
 | x::xs,y::ys,h=>by
   have ih:=eqVs_all (xs:=xs) (ys:=ys) (by simpa using h);rw [length_cons,range_succ_eq_map,all_cons,all_map];unfold eqVs;rw [← ih];rfl
theorem eqVs_ints:∀ {xs ys:List Int},eqVs (xs.map V.int) (ys.map V.int)=decide (xs=ys)
 | [],[]=>rfl
 | [],_::_=>rfl
 | _::_,[]=>rfl
 | x::xs,y::ys=>by
   rw [map_cons,map_cons];unfold eqVs;rw [eqVs_ints]
   by_cases h:x=y
   ·subst h;simp [eqV]
   ·simp [eqV,h]
def rEqL (K:PySem.W.Frag):R2:=fun x y H Q=>∃ a b xs ys,x=.ref a∧y=.ref b∧SqL K H a xs∧SqL K H b ys∧xs.all flatV=true∧ys.all flatV=true∧Q (.bl (eqVs xs ys)) H
theorem zni (hu:X.A.units < cLine):OpR X (compareOp .Eq) (rEqL X.K):=by
 intro pins s σ H x y v u Q I rx ry h;obtain ⟨a,b,xs,ys,rfl,rfl,h1,h2,f1,f2,q⟩:=h
 cases rx
 cases ry
 obtain ⟨its1,r1,p1,z1⟩:=I.list h1;obtain ⟨its2,r2,p2,z2⟩:=I.list h2;have l1:=r1.length;have l2:=r2.length
 by_cases hl:xs.length=ys.length
 ·refine SeqAt.eq_listAt (e:=fun j=>eqV (xs.getD j .non) (ys.getD j .non)) p1.isList p2.isList (by simp;omega) hu (fun j h1 h2=>?_) ⟨.bl _,H,I,rfl,?_⟩
  ·simp only [size_toArray] at h1 h2;have e1:xs[j]? = some (xs.getD j .non):=by rw [getD_eq_getElem?_getD,getElem?_eq_getElem (by omega)];rfl
   have e2:ys[j]? = some (ys.getD j .non):=by rw [getD_eq_getElem?_getD,getElem?_eq_getElem (by omega)];rfl
   obtain ⟨u1,a1,b1⟩:=r1.get e1;obtain ⟨u2,a2,b2⟩:=r2.get e2;have c1:its1.toArray[j]=u1:=by simpa [getElem?_eq_getElem h1] using a1
   have c2:its2.toArray[j]=u2:=by simpa [getElem?_eq_getElem h2] using a2
   rw [c1,c2];exact zjs b1 b2 (all_eq_true.mp f1 _ (mem_of_getElem? e1)) (all_eq_true.mp f2 _ (mem_of_getElem? e2))
  ·have e:its1.toArray.size=xs.length:=by simp;omega
   rw [e,eqVs_all hl];exact q
 ·refine SeqAt.eq_list_lengthsAt p1.isList p2.isList (by simp;omega) hu ⟨.bl false,H,I,rfl,?_⟩;rw [← eqVs_len hl];exact q
def zkO (K:PySem.W.Frag):R2:=fun x y H Q=>rEq x y H Q∨rEqL K x y H Q
theorem zl7 (h:X.K=K) (hu:X.A.units < cLine):OpR X (compareOp .Eq) (zkO K):=op_eq.or (h▸zni hu)
end
section
variable {H:Hp} {K:PySem.W.Frag} {Q:VK} {i j:Int}
theorem zl8 (q:Q (.bl (decide (i=j))) H):zkO K (.int i) (.int j) H Q:=.inl (zoa q)
theorem zl9 {a b:Bool} (q:Q (.bl (decide (a=b))) H):zkO K (.bl a) (.bl b) H Q:=.inl (zoc q)
theorem zjK {x:Int} {xs:List Int}:inV (.int x) (xs.map V.int)=decide (x∈xs):=by
 unfold inV;rw [Bool.eq_iff_iff,any_eq_true];simp only [mem_map,decide_eq_true_eq];constructor
 ·rintro ⟨v,⟨y,hy,rfl⟩,e⟩;have e':y=x:=by simpa [eqV] using e
  rw [← e'];exact hy
 ·intro h;exact ⟨_,⟨x,h,rfl⟩,by simp [eqV]⟩
theorem zoo {a:Addr} {xs:List Int} (h:SqL K H a (xs.map V.int)) (q:Q (.bl (decide (i∈xs))) H):rIn K false (.int i) (.ref a) H Q :=
 ⟨a,_,rfl,.inl h,rfl,by simp [flatV],by rw [zjK];exact q⟩
theorem zkP {a:Addr} {xs:List Int} (h:SqL K H a (xs.map V.int)) (q:Q (.bl (!decide (i∈xs))) H):rIn K true (.int i) (.ref a) H Q :=
 ⟨a,_,rfl,.inl h,rfl,by simp [flatV],by rw [zjK];exact q⟩
end
end L2
namespace L2
open PySem PySem.Spec PyProof.Rows
section
variable {prog:Program} {w:World} {A:Around} {R:Result→Shared→Prop}
end
section
variable {X:Cx} {K:PySem.W.Frag}
end
section
variable {σ:St} {H:Hp} {Q:VK} {K:PySem.W.Frag} {ta td:TE}
end
end L2
namespace Prf
open PySem PySem.Spec PyProof.Rows L2
def zbz (ns:List Int) (k:Int):Int:=if (ns.length:Int)=0 then 0 else ns.getD (k % ns.length).toNat 0+k / ns.length
theorem map_ref_inj:∀ {ps qs:List Addr},ps.map V.ref=qs.map V.ref→ps=qs
 | [],[],_=>rfl
 | p::ps,q::qs,h=>by
   rw [map_cons,map_cons] at h;obtain ⟨h1,h2⟩:=List.cons.inj h;rw [V.ref.inj h1,map_ref_inj h2]
structure SetM (m:Int) (xs:List Int):Prop where
 up:xs.Pairwise (· < ·)
 rng:∀ x∈xs,1≤x∧x≤m
def zci (hs:List Int) (r:List Int) (n:Int) (x:Int):Int:=if r.getD 0 0≠hs.getD (x-1).toNat 0∧n < r.getD 1 0 then n+1 else n
def zhW (hs:List Int) (r:List Int) (xs:List Int):Int:=xs.foldl (zci hs r) 0
def zfz (hs:List Int) (rs:LI) (xs:List Int):Int:=(rs.map fun r=>zhW hs r xs).sum
theorem zhe (hs:List Int) (rs:LI) (xs:List Int) (i:Nat) (h:i < rs.length):zfz hs (rs.take (i+1)) xs=zfz hs (rs.take i) xs+zhW hs (rs.getD i []) xs:=by
 unfold zfz;rw [take_add_one,getElem?_eq_getElem h,map_append,List.sum_append,getD_eq_getElem?_getD,getElem?_eq_getElem h];simp
theorem zcq {xs:List Int} {i:Nat} {x:V} (hx:(xs.map V.int)[i]? = some x):i < xs.length∧x=.int (xs.getD i 0):=by
 have hi:i < xs.length:=by
  have:=(List.getElem?_eq_some_iff.mp hx).1;simpa using this
 refine ⟨hi,?_⟩;rw [getElem?_map,getElem?_eq_getElem hi] at hx;rw [getD_eq_getElem?_getD,getElem?_eq_getElem hi];exact (Option.some.inj hx).symm
theorem zfU {xs:List Addr} {i:Nat} {x:V} (hx:(xs.map V.ref)[i]? = some x):i < xs.length∧x=.ref (xs.getD i 0):=by
 have hi:i < xs.length:=by
  have:=(List.getElem?_eq_some_iff.mp hx).1;simpa using this
 refine ⟨hi,?_⟩;rw [getElem?_map,getElem?_eq_getElem hi] at hx;rw [getD_eq_getElem?_getD,getElem?_eq_getElem hi];exact (Option.some.inj hx).symm
theorem getD_mem {α:Type} {xs:List α} {d:α} {i:Nat} (h:i < xs.length):xs.getD i d∈xs:=by
 rw [getD_eq_getElem?_getD,getElem?_eq_getElem h];exact getElem_mem h
end Prf
namespace L2
open PySem PySem.Spec PyProof.Rows
section
variable {X:Cx} {K:PySem.W.Frag}
def cMin2:List V→Hp→VK→Prop:=fun xs H Q=>∃ i j,xs=[.int i,.int j]∧Q (.int (if j < i then j else i)) H
def cMax2:List V→Hp→VK→Prop:=fun xs H Q=>∃ i j,xs=[.int i,.int j]∧Q (.int (if j > i then j else i)) H
theorem zfA (hc:X.calm=true):zdj X (.builtin "min") cMin2:=zjl hc
theorem ziz (hc:X.calm=true):zdj X (.builtin "max") cMax2:=zjk hc
def CBig (i j:Int):Prop:=0 < j∧j < 2 ^ 200
theorem op_fdivB:OpR X (binaryOp .FloorDiv) (rI CBig fun i j=>.int (i / j)):=opI fun i j _ _ _ _ _ hc q=>by
 obtain ⟨h1,h2⟩:=hc;have hl:j.natAbs.log2 < 9000:=by
  have h3:j.natAbs < 2 ^ 200:=by
   have e:(j.natAbs:Int)=j:=Int.natAbs_of_nonneg (by omega);have:(j.natAbs:Int) < ((2 ^ 200:Nat):Int):=by rw [e];exact h2
   exact Int.ofNat_lt.mp this
  have h4:j.natAbs.log2 < 200:=(Nat.log2_lt (by omega)).mpr h3;omega
 refine floordiv_int (by omega) ?_ (.inl (PyProof.noPylong_of_log2 hl));rw [Int.fdiv_eq_ediv_of_nonneg i (by omega)];exact q
end
section
variable {σ:St} {H:Hp} {Q:VK} {K:PySem.W.Frag} {i j:Int} {p:Addr} {xs:List V} {ta:TA} {te:TE} {tl th:TO}
theorem znj (q:Q (.int (if j < i then j else i)) H):cMin2 [.int i,.int j] H Q:=⟨i,j,rfl,q⟩
theorem znk (q:Q (.int (if j > i then j else i)) H):cMax2 [.int i,.int j] H Q:=⟨i,j,rfl,q⟩
theorem znl {f:Int→Int→V} (c1:0 < j) (c2:j < 2 ^ 200) (q:Q (f i j) H):rI CBig f (.int i) (.int j) H Q:=⟨i,j,rfl,rfl,⟨c1,c2⟩,q⟩
theorem r_sl {r:V→Option Int→Option Int→Hp→VK→Prop} (h:te σ H fun x H1=>tl σ H1 fun l H2=>th σ H2 fun u H3=>r x l u H3 Q):tSl r te tl th σ H Q:=h
theorem zma {QO:Option Int→Hp→Prop} (h:QO none H):tNoPart σ H QO:=h
theorem znm {QO:Option Int→Hp→Prop} (h:te σ H fun x H1=>∃ i,x=.int i∧QO (some i) H1):zmT te σ H QO:=h
theorem zmb {P:Int→Prop} (h:P i):∃ k,V.int i=.int k∧P k:=⟨i,rfl,h⟩
theorem zcx {lo hi:Option Int} (h:SqL K H p xs) (q:∀ l H2,H l=none→Same H H2→H2 l=some (.lst (cutV xs lo hi))→Q (.ref l) H2):rSlL K (.ref p) lo hi H Q:=⟨p,xs,rfl,h,fun l hl=>q l _ hl (zaY hl) zaz⟩
theorem zhf (k:Nat):cutV xs none (some (k:Int))=xs.take k:=by
 unfold cutV;rw [HT.sIx_none,HT.sIx_nat,List.drop_zero,Nat.sub_zero]
 by_cases h:k≤xs.length
 ·rw [Nat.min_eq_left h]
 ·rw [Nat.min_eq_right (by omega),take_of_length_le (Nat.le_refl _),take_of_length_le (by omega)]
theorem zgw (k:Nat):cutV xs (some (k:Int)) none=xs.drop k:=by
 unfold cutV;rw [HT.sIx_none,HT.sIx_nat]
 by_cases h:k≤xs.length
 ·rw [Nat.min_eq_left h,take_of_length_le (by rw [length_drop];omega)]
 ·rw [Nat.min_eq_right (by omega),List.drop_eq_nil_of_le (Nat.le_refl _),List.drop_eq_nil_of_le (by omega)];simp
theorem zkQ {nx bk ct:St→Hp→Prop} {rt:VK} {to ti:TE} (h:te σ H fun x H1=>gSub to ti rSetL x σ H1 nx):tAsg te (gSub to ti rSetL) ⟨nx,rt,bk,ct⟩ σ H:=h
theorem znn {to ti:TE} {v:V} {N:St→Hp→Prop} (h:to σ H fun o H1=>ti σ H1 fun i H2=>rSetL o i v H2 fun H3=>N σ H3):gSub to ti rSetL v σ H N:=h
theorem zno {n:Nat} {k:Int} (h0:0≤k) (h1:k < n):ixN n k=some k.toNat:=by
 unfold ixN;rw [if_pos h0,if_pos h1]
theorem zhX {v:V} {N:Hp→Prop} (h:H p=some (.lst xs)) (h0:0≤i) (h1:i < xs.length) (q:∀ H2,But p H H2→H2 p=some (.lst (xs.set i.toNat v))→N H2):rSetL (.ref p) (.int i) v H N:=⟨p,xs,i,_,rfl,rfl,h,zno h0 h1,q _ But.upd zaz⟩
end
end L2
namespace Prf
open PySem PySem.Spec PyProof.Rows L2
def cntB (rows:LI) (x:Int):Nat:=(rows.filter fun r=>decide (x∈r)).length
theorem zgx (rows:LI) (x:Int):((List.range rows.length).filter fun i=>decide (x∈rows.getD i [])).length=cntB rows x:=by
 unfold cntB
 induction rows with
 | nil=>rfl
 | cons r rs ih =>
   rw [length_cons,range_succ_eq_map,filter_cons,filter_cons,filter_map,];have e:((fun i=>decide (x∈(r::rs).getD i []))∘Nat.succ)=fun i=>decide (x∈rs.getD i []):=by funext i;rfl
   rw [e]
   by_cases h:x∈r
   ·simp only [getD_cons_zero,h,decide_true,if_true,length_cons,length_map];rw [ih]
   ·simp only [getD_cons_zero,h,decide_false,Bool.false_eq_true,if_false,length_map];exact ih
theorem zez {K:PySem.W.Frag} {σ:L2.St} {H:Hp} {Q:VK} {js:List Nat} {tc:TT} {a:Addr} {ps:List Addr} {rows:LI} {x:Int} (h1:SqL K H a (ps.map V.ref)) (h2:ps.length=rows.length) (hz:rows.length≤1000)
  (ht:∀ i H' (Q':Bool→Hp→Prop),i < rows.length→Same H H'→Q' (decide (x∈rows.getD i [])) H'→tc (some (.ref (ps.getD i 0))::capV js σ) H' Q')
  (hq:∀ p H2 zs,H p=none→Same H H2→H2 p=some (.lst zs)→zs.length=cntB rows x→Q (.ref p) H2):zeO (Itl K a) js tc (tVar 0) σ H Q:=by
 have ex:∀ i,i < rows.length→(ps.map V.ref).getD i .non=.ref (ps.getD i 0):=fun i hi=>by
  rw [getD_eq_getElem?_getD,getElem?_map,getElem?_eq_getElem (by omega),getD_eq_getElem?_getD,getElem?_eq_getElem (by omega)];rfl
 have hl:(ps.map V.ref).length=rows.length:=by rw [length_map,h2]
 refine zcw (zbe h1) (by rw [hl];exact za0 hz) (fun i=>decide (x∈rows.getD i [])) (fun i=>.ref (ps.getD i 0)) (fun i H' Q' hi s q=>?_) (fun i H' Q' hi s _ q=>?_) fun p hp=>?_
 ·show tc (some ((ps.map V.ref).getD i .non)::capV js σ) H' Q';rw [hl] at hi;rw [ex i hi];exact ht i H' Q' hi s q
 ·show tVar 0 (some ((ps.map V.ref).getD i .non)::capV js σ) H' Q';rw [hl] at hi;rw [ex i hi];exact zd3 (i:=0) rfl q
 ·refine hq p _ _ hp (zaY hp) zaz ?_;rw [length_map,hl,zgx]
end Prf
namespace L2
open PySem PySem.Spec PyProof.Rows
section
variable {X:Cx} {K:PySem.W.Frag}
def rIsN:R2:=fun x y H Q=>y=.non∧Q (.bl (decide (x=.non))) H
def rNotN:R2:=fun x y H Q=>y=.non∧Q (.bl (!decide (x=.non))) H
theorem op_isNN:OpR X (compareOp .Is) rIsN:=op_isN
theorem op_notNN:OpR X (compareOp .IsNot) rNotN:=op_notN
end
section
variable {σ:St} {H:Hp} {Q:VK} {K:PySem.W.Frag} {x:V}
theorem zop (q:Q (.bl (decide (x=.non))) H):rIsN x .non H Q:=⟨rfl,q⟩
theorem znp (q:Q (.bl (!decide (x=.non))) H):rNotN x .non H Q:=⟨rfl,q⟩
theorem filter_range (xs:List V) (c:V→Bool):((List.range xs.length).filter fun i=>c (xs.getD i .non)).map (fun i=>xs.getD i .non)=xs.filter c:=by
 induction xs with
 | nil=>rfl
 | cons y ys ih =>
   rw [length_cons,range_succ_eq_map,filter_cons,filter_map,filter_cons];have e:((fun i=>c ((y::ys).getD i .non))∘Nat.succ)=fun i=>c (ys.getD i .non):=by funext i;rfl
   have e2:∀ l:List Nat,(l.map Nat.succ).map (fun i=>(y::ys).getD i .non)=l.map fun i=>ys.getD i .non:=fun l=>by rw [map_map];rfl
   rw [e]
   cases h:c y with
   | true =>
     simp only [getD_cons_zero,h,if_true,map_cons];rw [e2,ih]
   | false =>
     simp only [getD_cons_zero,h,Bool.false_eq_true,if_false];rw [e2,ih]
theorem zgy {js:List Nat} {tc:TT} {a:Addr} {xs:List V} (h:SqL K H a xs) (hz:xs.length≤1000) (c:V→Bool)
  (ht:∀ i H' (Q':Bool→Hp→Prop),i < xs.length→Same H H'→Q' (c (xs.getD i .non)) H'→tc (some (xs.getD i .non)::capV js σ) H' Q')
  (hq:∀ p H2,H p=none→Same H H2→H2 p=some (.lst (xs.filter c))→Q (.ref p) H2):zeO (Itl K a) js tc (tVar 0) σ H Q:=by
 refine zcw (zbe h) (za0 hz) (fun i=>c (xs.getD i .non)) (fun i=>xs.getD i .non) ht (fun i H' Q' _ _ _ q=>zd3 (i:=0) rfl q) fun p hp=>hq p _ hp (zaY hp) ?_;rw [zaz,filter_range]
end
end L2
namespace Prf
open PySem PySem.Spec PyProof.Rows L2
def encO:Option Int→V
 | none=>.non
 | some i=>.int i
theorem ziA (gs:List (Option Int)):(gs.map encO).filter (fun x=>!decide (x=V.non))=(gs.filterMap id).map V.int:=by
 induction gs with
 | nil=>rfl
 | cons g gs ih =>
   rw [map_cons,filter_cons]
   cases g with
   | none=>simpa [encO] using ih
   | some i=>simpa [encO] using ih
def zhg (c:Int):Int:=if c % 3=0 then c / 3 % 101 else if c % 3=1 then c / 3 % 12 else ([0,1,99,100]:List Int).getD (c / 3 % 4).toNat 0
theorem zjL (c:Int):0≤zhg c∧zhg c≤100:=by
 unfold zhg;split
 ·omega
 ·split
  ·omega
  ·have:c / 3 % 4=0∨c / 3 % 4=1∨c / 3 % 4=2∨c / 3 % 4=3:=by omega
   rcases this with e | e | e | e <;> rw [e] <;> decide
def zkR (c st k:Int):Int:=k+([st,0-st,st+1,0-st-1]:List Int).getD (c / 303 % 4).toNat 0
def ptsB (c st:Int) (gs:List (Option Int)):Int :=
 if c / 101 % 3=1∧(gs.filterMap id).length=1∧0≤zkR c st ((gs.filterMap id).getD 0 0)∧zkR c st ((gs.filterMap id).getD 0 0)≤100 then zkR c st ((gs.filterMap id).getD 0 0) else c % 101
theorem zkS (c st:Int) (gs:List (Option Int)):0≤ptsB c st gs∧ptsB c st gs≤100:=by
 unfold ptsB;split
 ·rename_i h;exact ⟨h.2.2.1,h.2.2.2⟩
 ·omega
def zcy (rs:LI) (h:Int) (row:List Int):Bool :=
 decide (row.length=2) && row.all (fun x=>decide (1≤x) && decide (x≤(rs.length:Int)) && !decide ((rs.getD (x-1).toNat []).getD 0 0=h)) && decide (row.getD 0 0 < row.getD 1 0)
def zaW (hs:List Int) (rs rows:LI):Bool :=
 decide (rows.length=hs.length) && (List.range hs.length).all (fun k=>zcy rs (hs.getD k 0) (rows.getD k [])) && (List.range rs.length).all (fun k=>decide ((cntB rows (0+(k:Int)+1):Int)≤(rs.getD k []).getD 1 0))
theorem zcY {n:Nat} {c:Nat→Bool} {k:Nat} (h:k < n) (hc:c k=false):(List.range n).all c=false:=by
 rw [Bool.eq_false_iff];intro z;have:=all_eq_true.mp z k (mem_range.mpr h);rw [hc] at this
 cases this
theorem zbg {n:Nat} {c:Nat→Bool} (h:∀ k,k < n→c k=true):(List.range n).all c=true:=all_eq_true.mpr fun k hk=>h k (mem_range.mp hk)
theorem zjM {xs:List Int} {c:Int→Bool} {i:Nat} (h:i < xs.length) (hc:c (xs.getD i 0)=false):xs.all c=false:=by
 rw [Bool.eq_false_iff];intro z;have:=all_eq_true.mp z _ (getD_mem (d:=0) h);rw [hc] at this
 cases this
theorem zkT {xs:List Int} {c:Int→Bool} (h:∀ i,i < xs.length→c (xs.getD i 0)=true):xs.all c=true:=all_eq_true.mpr fun x hx=>by
 obtain ⟨i,hi,e⟩:=mem_getD (d:=0) hx;rw [← e];exact h i hi
structure InB (hs:List Int) (rs:LI):Prop where
 lp:hs.length≤10
 lr:rs.length≤8
 hh:∀ i,i < hs.length→1≤hs.getD i 0∧hs.getD i 0≤6
 r2:∀ i,i < rs.length→(rs.getD i []).length=2
 rh:∀ i,i < rs.length→0≤(rs.getD i []).getD 0 0∧(rs.getD i []).getD 0 0≤6
 rl:∀ i,i < rs.length→0≤(rs.getD i []).getD 1 0∧(rs.getD i []).getD 1 0≤30
def fitB (a b:Int):List Int:=((List.range 6).filter fun i:Nat=>!decide (1+(i:Int)=a) && !decide (1+(i:Int)=b)).map fun i:Nat=>1+(i:Int)
theorem zkU {a b x:Int} (h:x∈fitB a b):1≤x∧x≤6∧x≠a∧x≠b:=by
 unfold fitB at h;obtain ⟨i,hi,rfl⟩:=mem_map.mp h;obtain ⟨h1,h2⟩:=mem_filter.mp hi;have:=mem_range.mp h1;simp only [Bool.and_eq_true,Bool.not_eq_true',decide_eq_false_iff_not] at h2;exact ⟨by omega,by omega,h2.1,h2.2⟩
theorem zhY (a b:Int):0 < (fitB a b).length:=by
 have key:∃ i:Nat,i < 6∧1+(i:Int)≠a∧1+(i:Int)≠b:=by
  by_cases h0:(1:Int)≠a∧(1:Int)≠b
  ·exact ⟨0,by omega,by omega,by omega⟩
  ·by_cases h1:(2:Int)≠a∧(2:Int)≠b
   ·exact ⟨1,by omega,by omega,by omega⟩
   ·exact ⟨2,by omega,by omega,by omega⟩
 obtain ⟨i,h1,h2,h3⟩:=key;have:1+(i:Int)∈fitB a b:=by
  unfold fitB;refine mem_map.mpr ⟨i,mem_filter.mpr ⟨mem_range.mpr h1,?_⟩,rfl⟩;rw [decide_eq_false h2,decide_eq_false h3];rfl
 exact List.length_pos_of_mem this
theorem zmc (a b:Int):(fitB a b).length≤6:=by
 unfold fitB;rw [length_map];exact Nat.le_trans (length_filter_le _ _) (by simp)
structure PRow (c:Nat) (hB:Nat→Int) (h:Int) (row:List Int):Prop where
 ex:∃ x y:Nat,x < y∧y < c∧row=[(x:Int)+1,(y:Int)+1]∧h≠hB x∧h≠hB y
 rng:1≤h∧h≤6
structure zhh (least:Int) (hs:List Int) (rs rows:LI):Prop where
 inb:InB hs rs
 two:2≤rs.length
 len:rows.length=hs.length
 low:least≤hs.length
 row2:∀ i,i < rows.length→(rows.getD i []).length=2
 right:zaW hs rs rows=true
theorem PRow.pair {c:Nat} {hB:Nat→Int} {h:Int} {row:List Int} {rs:LI} (P:PRow c hB h row) (hl:rs.length=c) (hh:∀ j,j < c→(rs.getD j []).getD 0 0=hB j):zcy rs h row=true:=by
 obtain ⟨⟨x,y,h1,h2,rfl,h3,h4⟩,_⟩:=P;unfold zcy;have ex:((x:Int)+1-1).toNat=x:=by omega
 have ey:((y:Int)+1-1).toNat=y:=by omega
 simp only [length_cons,length_nil,decide_true,Bool.true_and,all_cons,all_nil,Bool.and_true,ex,ey,hh x (by omega),hh y h2,getD_cons_zero,List.getD_cons_succ];rw [decide_eq_true (show 1≤(x:Int)+1 by omega),decide_eq_true (show (x:Int)+1≤(rs.length:Int) by omega),decide_eq_false (fun z=>h3 z.symm),decide_eq_true (show 1≤(y:Int)+1 by omega),decide_eq_true (show (y:Int)+1≤(rs.length:Int) by omega),decide_eq_false (fun z=>h4 z.symm),decide_eq_true (show (x:Int)+1 < (y:Int)+1 by omega)];rfl
theorem zmd (rows:LI) (x:Int):cntB rows x≤rows.length:=length_filter_le _ _
end Prf
namespace Hall
def sm:Nat→(Nat→Nat)→Nat
 | 0,_=>0
 | n+1,f=>sm n f+f n
theorem sm_congr {n:Nat} {f g:Nat→Nat} (h:∀ i,i < n→f i=g i):sm n f=sm n g:=by
 induction n with
 | zero=>rfl
 | succ n ih=>simp only [sm];rw [ih (fun i hi=>h i (by omega)),h n (by omega)]
theorem sm_add {n:Nat} {f g:Nat→Nat}:sm n (fun i=>f i+g i)=sm n f+sm n g:=by
 induction n with
 | zero=>rfl
 | succ n ih=>simp only [sm];rw [ih];omega
theorem sm_le {n:Nat} {f g:Nat→Nat} (h:∀ i,i < n→f i≤g i):sm n f≤sm n g:=by
 induction n with
 | zero=>exact Nat.le_refl _
 | succ n ih =>
   simp only [sm];have:=ih (fun i hi=>h i (by omega));have:=h n (by omega);omega
theorem sm_zero {n:Nat}:sm n (fun _=>0)=0:=by
 induction n with
 | zero=>rfl
 | succ n ih=>simp only [sm];omega
theorem sm_swap {n m:Nat} {f:Nat→Nat→Nat} :
  sm n (fun i=>sm m (fun j=>f i j))=sm m (fun j=>sm n (fun i=>f i j)):=by
 induction n with
 | zero=>simp only [sm];rw [sm_zero]
 | succ n ih=>simp only [sm];rw [ih,sm_add]
theorem zcZ {n:Nat} {f g:Nat→Nat} (h:∀ i,i < n→f i≤g i) (e:sm n g≤sm n f) :
  ∀ i,i < n→f i=g i:=by
 induction n with
 | zero=>intro i hi;omega
 | succ n ih =>
   simp only [sm] at e;have h1:=sm_le (fun i hi=>h i (by omega):∀ i,i < n→f i≤g i);have h2:=h n (by omega);intro i hi
   by_cases hn:i=n
   ·subst hn;omega
   ·exact ih (fun i hi=>h i (by omega)) (by omega) i (by omega)
theorem zdm {n p:Nat} {f:Nat→Nat} (hp:p < n) (h:∀ i,i < n→i≠p→f i=0):sm n f=f p:=by
 induction n with
 | zero=>omega
 | succ n ih =>
   simp only [sm]
   by_cases hn:p=n
   ·subst hn;have:sm p f=sm p (fun _=>0):=sm_congr (fun i hi=>h i (by omega) (by omega));rw [this,sm_zero];omega
   ·rw [ih (by omega) (fun i hi hne=>h i (by omega) hne),h n (by omega) (by omega)];omega
theorem znq {n:Nat} {f:Nat→Nat} (h:0 < sm n f):∃ i,i < n∧0 < f i:=by
 induction n with
 | zero=>simp [sm] at h
 | succ n ih =>
   simp only [sm] at h
   by_cases hn:0 < f n
   ·exact ⟨n,by omega,hn⟩
   ·obtain ⟨i,hi,hf⟩:=ih (by omega);exact ⟨i,by omega,hf⟩
theorem sm_lt {n p:Nat} {f g:Nat→Nat} (hp:p < n) (h:∀ i,i < n→f i≤g i) (hl:f p < g p) :
  sm n f < sm n g:=by
 have h1:=sm_le h;rcases Nat.lt_or_ge (sm n f) (sm n g) with h2 | h2
 ·exact h2
 ·have:=zcZ h h2 p hp;omega
def b2 (b:Bool):Nat:=if b then 1 else 0
@[simp] theorem b2_t:b2 true=1:=rfl
@[simp] theorem b2_f:b2 false=0:=rfl
def deg (n:Nat) (A:Nat→Nat→Bool) (S:Nat→Bool) (r:Nat):Nat:=sm n fun p=>b2 (S p && A p r)
def room (n m:Nat) (L:Nat→Nat) (A:Nat→Nat→Bool) (S:Nat→Bool):Nat:=sm m fun r=>min (L r) (deg n A S r)
def need (n:Nat) (d:Nat→Nat) (S:Nat→Bool):Nat:=sm n fun p=>if S p then d p else 0
def Ok (n m:Nat) (L d:Nat→Nat) (A:Nat→Nat→Bool):Prop:=∀ S,need n d S≤room n m L A S
variable {n m:Nat} {L d:Nat→Nat} {A:Nat→Nat→Bool}
theorem zme {S T:Nat→Bool} {r:Nat} :
  deg n A (fun p=>S p && T p) r+deg n A (fun p=>S p || T p) r=deg n A S r+deg n A T r:=by
 unfold deg;rw [← sm_add,← sm_add];apply sm_congr;intro i _;show b2 ((S i && T i) && A i r)+b2 ((S i || T i) && A i r)=b2 (S i && A i r)+b2 (T i && A i r)
 cases S i <;> cases T i <;> cases A i r <;> rfl
theorem zkV {S T:Nat→Bool} :
  need n d (fun p=>S p && T p)+need n d (fun p=>S p || T p)=need n d S+need n d T:=by
 unfold need;rw [← sm_add,← sm_add];apply sm_congr;intro i _;show (if S i && T i then d i else 0)+(if S i || T i then d i else 0)=(if S i then d i else 0)+(if T i then d i else 0)
 cases S i <;> cases T i <;> simp
theorem zeA {S T:Nat→Bool} (h:∀ p,S p=true→T p=true) {r:Nat}:deg n A S r≤deg n A T r:=by
 apply sm_le;intro i _;have h':=h i;show b2 (S i && A i r)≤b2 (T i && A i r)
 revert h'
 cases S i <;> cases T i <;> cases A i r <;> simp
theorem zkW {S T:Nat→Bool} :
  room n m L A (fun p=>S p && T p)+room n m L A (fun p=>S p || T p)≤room n m L A S+room n m L A T:=by
 unfold room;rw [← sm_add,← sm_add];apply sm_le;intro r _;have h1:=zme (n:=n) (A:=A) (S:=S) (T:=T) (r:=r);have h2:deg n A (fun p=>S p && T p) r≤deg n A S r:=zeA (fun p h=>by simp at h;exact h.1);have h3:deg n A (fun p=>S p && T p) r≤deg n A T r:=zeA (fun p h=>by simp at h;exact h.2);omega
theorem zjN (hA:Ok n m L d A) {S T:Nat→Bool} (hS:room n m L A S=need n d S)
  (hT:room n m L A T=need n d T) :
  room n m L A (fun p=>S p && T p)=need n d (fun p=>S p && T p):=by
 have h1:=zkW (n:=n) (m:=m) (L:=L) (A:=A) (S:=S) (T:=T);have h2:=zkV (n:=n) (d:=d) (S:=S) (T:=T);have h3:=hA (fun p=>S p && T p);have h4:=hA (fun p=>S p || T p);omega
def cut (A:Nat→Nat→Bool) (p r:Nat):Nat→Nat→Bool:=fun q s=>A q s && !(q == p && s == r)
theorem zmf {p r q s:Nat} (h:cut A p r q s=true):A q s=true:=by
 unfold cut at h;simp at h;exact h.1
theorem zfB {p r s:Nat} (h:s≠r) {S:Nat→Bool}:deg n (cut A p r) S s=deg n A S s:=by
 unfold deg cut;apply sm_congr;intro i _;have:(s == r)=false:=by simp [h]
 simp [this]
theorem zfC {p r:Nat} (hp:p < n) {S:Nat→Bool} :
  deg n (cut A p r) S r+b2 (S p && A p r)=deg n A S r:=by
 unfold deg;have:b2 (S p && A p r)=sm n (fun q=>b2 (q == p && (S p && A p r))):=by
  rw [zdm hp]
  ·simp
  ·intro i _ hi;have:(i == p)=false:=by simp [hi]
   simp [this]
 rw [this,← sm_add];apply sm_congr;intro i _;unfold cut
 by_cases hi:i=p
 ·subst hi
  cases S i <;> cases A i r <;> simp
 ·have:(i == p)=false:=by simp [hi]
  simp [this]
theorem zmg {p r:Nat} (hp:p < n) {S:Nat→Bool} (hS:S p=true) :
  deg n A (fun q=>S q && !(q == p)) r+b2 (A p r)=deg n A S r:=by
 unfold deg;have:b2 (A p r)=sm n (fun q=>b2 (q == p && A p r)):=by
  rw [zdm hp]
  ·simp
  ·intro i _ hi;have:(i == p)=false:=by simp [hi]
   simp [this]
 rw [this,← sm_add];apply sm_congr;intro i _
 by_cases hi:i=p
 ·subst hi;simp [hS]
 ·have:(i == p)=false:=by simp [hi]
  simp [this]
theorem zkX {p:Nat} (hp:p < n) {S:Nat→Bool} (hS:S p=true) :
  need n d (fun q=>S q && !(q == p))+d p=need n d S:=by
 unfold need;have:d p=sm n (fun q=>if q == p then d p else 0):=by
  rw [zdm hp]
  ·simp
  ·intro i _ hi;have:(i == p)=false:=by simp [hi]
   simp [this]
 rw [this,← sm_add];apply sm_congr;intro i _
 by_cases hi:i=p
 ·subst hi;simp [hS]
 ·have:(i == p)=false:=by simp [hi]
  simp [this]
theorem zhZ (hA:Ok n m L d A) {p r:Nat} (hp:p < n) (hr:r < m) (ha:A p r=true)
  (hn:¬Ok n m L d (cut A p r)) :
  ∃ S,room n m L A S=need n d S∧S p=true∧deg n A S r≤L r:=by
 have hn':∃ S,¬need n d S≤room n m L (cut A p r) S:=by
  apply Classical.byContradiction;intro hc;exact hn (fun S=>Classical.byContradiction fun h=>hc ⟨S,h⟩)
 obtain ⟨S,hS⟩:=hn';have h1:=hA S;have hle:∀ s,s < m→min (L s) (deg n (cut A p r) S s)≤min (L s) (deg n A S s):=by
  intro s _
  by_cases h:s=r
  ·subst h;have:=zfC (A:=A) (r:=s) hp (S:=S);omega
  ·rw [zfB h];exact Nat.le_refl _
 have hd:room n m L A S≤room n m L (cut A p r) S+(min (L r) (deg n A S r)-min (L r) (deg n (cut A p r) S r)):=by
  unfold room;have:min (L r) (deg n A S r)-min (L r) (deg n (cut A p r) S r)
    = sm m (fun s=>if s=r then min (L r) (deg n A S r)-min (L r) (deg n (cut A p r) S r) else 0):=by
   rw [zdm hr]
   ·simp
   ·intro i _ hi;simp [hi]
  rw [this,← sm_add];apply sm_le;intro s hs
  by_cases h:s=r
  ·subst h;simp;omega
  ·simp [h,zfB h]
 have hc:=zfC (A:=A) (r:=r) hp (S:=S);rw [ha] at hc;simp only [Bool.and_true] at hc;refine ⟨S,?_,?_,?_⟩
 ·cases hSp:S p
  ·rw [hSp,b2_f] at hc;omega
  ·rw [hSp,b2_t] at hc;omega
 ·cases hSp:S p
  ·rw [hSp,b2_f] at hc;omega
  ·rfl
 ·cases hSp:S p
  ·rw [hSp,b2_f] at hc;omega
  ·rw [hSp,b2_t] at hc;omega
theorem zkY (hA:Ok n m L d A) {p:Nat} (hp:p < n) (hd:d p < sm m (fun r=>b2 (A p r)))
  (hn:∀ r,r < m→A p r=true→¬Ok n m L d (cut A p r)):False:=by
 have h0:∃ r,r < m∧0 < b2 (A p r):=znq (by omega);obtain ⟨r0,hr0,hb0⟩:=h0;have ha0:A p r0=true:=by cases h:A p r0 <;> simp_all
 have key:∀ k,k≤m→∃ T,room n m L A T=need n d T∧T p=true∧∀ r,r < k→A p r=true→deg n A T r≤L r:=by
  intro k
  induction k with
  | zero =>
    intro _;obtain ⟨S,h1,h2,_⟩:=zhZ hA hp hr0 ha0 (hn r0 hr0 ha0);exact ⟨S,h1,h2,fun r hr=>by omega⟩
  | succ k ih =>
    intro hk;obtain ⟨T,h1,h2,h3⟩:=ih (by omega)
    cases hak:A p k
    ·refine ⟨T,h1,h2,fun r hr ha=>?_⟩
     by_cases h:r=k
     ·subst h;rw [hak] at ha;simp at ha
     ·exact h3 r (by omega) ha
    ·obtain ⟨S,g1,g2,g3⟩:=zhZ hA hp (by omega) hak (hn k (by omega) hak);refine ⟨fun q=>T q && S q,zjN hA h1 g1,by simp [h2,g2],fun r hr ha=>?_⟩;have m1:deg n A (fun q=>T q && S q) r≤deg n A T r:=zeA (fun q h=>by simp at h;exact h.1);have m2:deg n A (fun q=>T q && S q) r≤deg n A S r:=zeA (fun q h=>by simp at h;exact h.2)
     by_cases h:r=k
     ·subst h;omega
     ·have:=h3 r (by omega) ha;omega
 obtain ⟨T,h1,h2,h3⟩:=key m (Nat.le_refl _);have e1:room n m L A T=room n m L A (fun q=>T q && !(q == p))+sm m (fun r=>b2 (A p r)):=by
  unfold room;rw [← sm_add];apply sm_congr;intro r hr;have e:=zmg (A:=A) (r:=r) hp h2
  cases ha:A p r
  ·rw [ha] at e;simp at e;simp;omega
  ·have:=h3 r hr ha;rw [ha] at e;simp at e;simp;omega
 have e2:=zkX (d:=d) hp h2;have e3:=hA (fun q=>T q && !(q == p));omega
def zjO (n m:Nat) (A:Nat→Nat→Bool):Nat:=sm n fun p=>sm m fun r=>b2 (A p r)
theorem zjP {p r:Nat} (hp:p < n) (hr:r < m) (ha:A p r=true) :
  zjO n m (cut A p r) < zjO n m A:=by
 have hle:∀ q s,b2 (cut A p r q s)≤b2 (A q s):=by
  intro q s;show b2 (A q s && !(q == p && s == r))≤b2 (A q s)
  cases A q s <;> cases (q == p) <;> cases (s == r) <;> simp
 apply sm_lt hp
 ·intro q _;exact sm_le (fun s _=>hle q s)
 ·apply sm_lt hr
  ·intro s _;exact hle p s
  ·unfold cut;simp [ha]
theorem hall:∀ k (A:Nat→Nat→Bool),zjO n m A≤k→Ok n m L d A →
  ∃ B:Nat→Nat→Bool,(∀ p r,B p r=true→A p r=true) ∧
   (∀ p,p < n→sm m (fun r=>b2 (B p r))=d p)∧(∀ r,r < m→sm n (fun p=>b2 (B p r))≤L r):=by
 intro k
 induction k with
 | zero =>
   intro A he hA;refine ⟨A,fun _ _ h=>h,?_,?_⟩
   ·intro p hp;have h0:sm m (fun r=>b2 (A p r))=0:=by
     have:=zcZ (n:=n) (f:=fun _=>0) (g:=fun p=>sm m fun r=>b2 (A p r)) (fun _ _=>by omega)
      (by rw [sm_zero];exact he) p hp
     exact this.symm
    have h1:=hA (fun q=>q == p);have h2:need n d (fun q=>q == p)=d p:=by
     unfold need;rw [zdm hp]
     ·simp
     ·intro i _ hi;simp [hi]
    have h3:room n m L A (fun q=>q == p)≤sm m (fun r=>b2 (A p r)):=by
     unfold room;apply sm_le;intro r _;have:deg n A (fun q=>q == p) r=b2 (A p r):=by
      unfold deg;rw [zdm hp]
      ·simp
      ·intro i _ hi;have:(i == p)=false:=by simp [hi]
       simp [this]
     omega
    omega
   ·intro r hr;have h0:sm n (fun p=>b2 (A p r))=0:=by
     unfold zjO at he;rw [sm_swap] at he;have:=zcZ (n:=m) (f:=fun _=>0) (g:=fun r=>sm n fun p=>b2 (A p r)) (fun _ _=>by omega)
      (by rw [sm_zero];exact he) r hr
     exact this.symm
    omega
 | succ k ih =>
   intro A he hA
   by_cases hall:∀ p,p < n→sm m (fun r=>b2 (A p r))=d p
   ·refine ⟨A,fun _ _ h=>h,hall,?_⟩;have h1:=hA (fun _=>true);have h2:need n d (fun _=>true)=sm n (fun p=>sm m (fun r=>b2 (A p r))):=by
     unfold need;apply sm_congr;intro i hi;rw [hall i hi];simp
    rw [h2,sm_swap] at h1;unfold room at h1;intro r hr;have h3:=zcZ (n:=m) (f:=fun r=>min (L r) (deg n A (fun _=>true) r))
     (g:=fun r=>sm n (fun p=>b2 (A p r)))
     (fun r _=>by
      have:deg n A (fun _=>true) r=sm n (fun p=>b2 (A p r)):=by
       unfold deg;apply sm_congr;intro i _;simp
      show min _ _≤_;omega) h1 r hr
    omega
   ·have:∃ p,p < n∧sm m (fun r=>b2 (A p r))≠d p:=by
     apply Classical.byContradiction;intro hc;exact hall (fun p hp=>Classical.byContradiction fun h=>hc ⟨p,hp,h⟩)
    obtain ⟨p,hp,hne⟩:=this;have hge:d p≤sm m (fun r=>b2 (A p r)):=by
     have h1:=hA (fun q=>q == p);have h2:need n d (fun q=>q == p)=d p:=by
      unfold need;rw [zdm hp]
      ·simp
      ·intro i _ hi;simp [hi]
     have h3:room n m L A (fun q=>q == p)≤sm m (fun r=>b2 (A p r)):=by
      unfold room;apply sm_le;intro r _;have:deg n A (fun q=>q == p) r=b2 (A p r):=by
       unfold deg;rw [zdm hp]
       ·simp
       ·intro i _ hi;have:(i == p)=false:=by simp [hi]
        simp [this]
      omega
     omega
    by_cases hs:∃ r,r < m∧A p r=true∧Ok n m L d (cut A p r)
    ·obtain ⟨r,hr,ha,hok⟩:=hs;have hlt:=zjP (n:=n) (m:=m) hp hr ha;obtain ⟨B,b1,b2',b3⟩:=ih (cut A p r) (by omega) hok;exact ⟨B,fun q s h=>zmf (b1 q s h),b2',b3⟩
    ·exact (zkY hA hp (by omega) (fun r hr ha hok=>hs ⟨r,hr,ha,hok⟩)).elim
end Hall
namespace Hall
variable {n m:Nat} {L d:Nat→Nat} {A:Nat→Nat→Bool}
theorem room_of {B:Nat→Nat→Bool} (hs:∀ p r,B p r=true→A p r=true)
  (hd:∀ p,p < n→sm m (fun r=>b2 (B p r))=d p) (hL:∀ r,r < m→sm n (fun p=>b2 (B p r))≤L r) :
  Ok n m L d A:=by
 intro S;have h1:need n d S=sm m (fun r=>deg n B S r):=by
  unfold need deg;rw [sm_swap];apply sm_congr;intro p hp
  cases hS:S p
  ·simp only [Bool.false_and,b2_f];rw [sm_zero];rfl
  ·simp only [Bool.true_and];rw [hd p hp];rfl
 rw [h1];apply sm_le;intro r hr;have h2:deg n B S r≤deg n A S r:=by
  apply sm_le;intro p _;have:=hs p r
  revert this
  cases S p <;> cases B p r <;> cases A p r <;> simp
 have h3:deg n B S r≤sm n (fun p=>b2 (B p r)):=by
  apply sm_le;intro p _
  cases S p <;> cases B p r <;> simp
 have:=hL r hr;show _≤min (L r) (deg n A S r);omega
theorem znr {f:Nat→Bool} (h:sm m (fun r=>b2 (f r))=1) :
  ∃ a,a < m∧f a=true∧∀ r,r < m→f r=true→r=a:=by
 induction m with
 | zero=>simp [sm] at h
 | succ m ih =>
   simp only [sm] at h
   cases hf:f m
   ·rw [hf,b2_f] at h;obtain ⟨a,h1,h2,h3⟩:=ih (by omega);refine ⟨a,by omega,h2,fun r hr hfr=>?_⟩
    by_cases e:r=m
    ·subst e;rw [hf] at hfr;simp at hfr
    ·exact h3 r (by omega) hfr
   ·rw [hf,b2_t] at h;refine ⟨m,by omega,hf,fun r hr hfr=>?_⟩
    by_cases e:r=m
    ·exact e
    ·have:=zcZ (n:=m) (f:=fun _=>0) (g:=fun r=>b2 (f r)) (fun _ _=>by omega) (by rw [sm_zero];omega) r (by omega);rw [hfr] at this;simp at this
theorem two_of {f:Nat→Bool} (h:sm m (fun r=>b2 (f r))=2) :
  ∃ a b,a < b∧b < m∧f a=true∧f b=true∧∀ r,r < m→f r=true→r=a∨r=b:=by
 induction m with
 | zero=>simp [sm] at h
 | succ m ih =>
   simp only [sm] at h
   cases hf:f m
   ·rw [hf,b2_f] at h;obtain ⟨a,b,h1,h2,h3,h4,h5⟩:=ih (by omega);refine ⟨a,b,h1,by omega,h3,h4,fun r hr hfr=>?_⟩
    by_cases e:r=m
    ·subst e;rw [hf] at hfr;simp at hfr
    ·exact h5 r (by omega) hfr
   ·rw [hf,b2_t] at h;obtain ⟨a,h1,h2,h3⟩:=znr (m:=m) (f:=f) (by omega);refine ⟨a,m,h1,by omega,h2,hf,fun r hr hfr=>?_⟩
    by_cases e:r=m
    ·exact Or.inr e
    ·exact Or.inl (h3 r (by omega) hfr)
structure Deal (n m:Nat) (L:Nat→Nat) (A:Nat→Nat→Bool) (D:Nat→Nat×Nat):Prop where
 lt:∀ p,p < n→(D p).1 < (D p).2
 hi:∀ p,p < n→(D p).2 < m
 a:∀ p,p < n→A p (D p).1=true
 b:∀ p,p < n→A p (D p).2=true
 lim:∀ r,r < m→sm n (fun p=>b2 (r == (D p).1 || r == (D p).2))≤L r
theorem two_eq {a b:Nat} (h:a < b) (hb:b < m):sm m (fun r=>b2 (r == a || r == b))=2:=by
 have:sm m (fun r=>b2 (r == a || r == b))=sm m (fun r=>b2 (r == a)+b2 (r == b)):=by
  apply sm_congr;intro r _
  by_cases h1:r=a
  ·subst h1;have:(r == b)=false:=by simp;omega
   simp [this]
  ·have:(r == a)=false:=by simp [h1]
   simp [this]
 rw [this,sm_add,zdm (p:=a) (by omega),zdm (p:=b) hb]
 ·simp
 ·intro i _ hi;have:(i == b)=false:=by simp [hi]
  simp [this]
 ·intro i _ hi;have:(i == a)=false:=by simp [hi]
  simp [this]
theorem deal_iff:(∃ D,Deal n m L A D)↔Ok n m L (fun _=>2) A:=by
 constructor
 ·rintro ⟨D,h⟩ S;have:=room_of (n:=n) (m:=m) (L:=L) (d:=fun _=>2) (A:=A)
   (B:=fun p r=>decide (p < n) && (r == (D p).1 || r == (D p).2))
   (fun p r hb=>by
    simp at hb;obtain ⟨hp,hb⟩:=hb;rcases hb with e | e
    ·rw [e];exact h.a p hp
    ·rw [e];exact h.b p hp)
   (fun p hp=>by
    have:decide (p < n)=true:=by simp [hp]
    simp only [this,Bool.true_and];exact two_eq (h.lt p hp) (h.hi p hp))
   (fun r hr=>by
    have:=h.lim r hr;refine Nat.le_trans (sm_le fun p _=>?_) this;show b2 (decide (p < n) && (r == (D p).1 || r == (D p).2))≤b2 (r == (D p).1 || r == (D p).2)
    cases decide (p < n) <;> simp)
  exact this S
 ·intro h;obtain ⟨B,b1,h2,h3⟩:=hall (n:=n) (m:=m) (L:=L) (d:=fun _=>2) (zjO n m A) A (Nat.le_refl _) h;have hx:∀ p,∃ ab:Nat×Nat,p < n→ab.1 < ab.2∧ab.2 < m∧B p ab.1=true∧B p ab.2=true ∧
    ∀ r,r < m→B p r=true→r=ab.1∨r=ab.2:=by
   intro p
   by_cases hp:p < n
   ·obtain ⟨a,b,g1,g2,g3,g4,g5⟩:=two_of (h2 p hp);exact ⟨(a,b),fun _=>⟨g1,g2,g3,g4,g5⟩⟩
   ·exact ⟨(0,0),fun h=>absurd h hp⟩
  have hD:∃ D:Nat→Nat×Nat,∀ p,p < n→(D p).1 < (D p).2∧(D p).2 < m∧B p (D p).1=true∧B p (D p).2=true ∧
    ∀ r,r < m→B p r=true→r=(D p).1∨r=(D p).2 :=
   ⟨fun p=>Classical.choose (hx p),fun p=>Classical.choose_spec (hx p)⟩
  obtain ⟨D,hD⟩:=hD;refine ⟨D,fun p hp=>(hD p hp).1,fun p hp=>(hD p hp).2.1,fun p hp=>b1 _ _ (hD p hp).2.2.1,
   fun p hp=>b1 _ _ (hD p hp).2.2.2.1,fun r hr=>?_⟩
  refine Nat.le_trans (sm_le fun p hp=>?_) (h3 r hr);show b2 (r == (D p).1 || r == (D p).2)≤b2 (B p r);have h4:=(hD p hp).2.2.1;have h5:=(hD p hp).2.2.2.1
  by_cases e1:r=(D p).1
  ·rw [e1,h4];simp
  ·by_cases e2:r=(D p).2
   ·rw [e2,h5];simp
   ·have t1:(r == (D p).1)=false:=by simp [e1]
    have t2:(r == (D p).2)=false:=by simp [e2]
    simp [t1,t2]
end Hall
namespace Prf
open PySem PySem.Spec PyProof.Rows L2
def agB (hs:List Int) (rs:LI) (xs:List Int):Bool:=decide (zfz hs rs xs < 2 * (xs.length:Int))
def zbq (hs:List Int) (rs:LI) (p r:Nat):Bool:=!decide ((rs.getD r []).getD 0 0=hs.getD p 0)
def limN (rs:LI) (r:Nat):Nat:=((rs.getD r []).getD 1 0).toNat
theorem zc0 (c:Nat→Bool):∀ n,Hall.sm n (fun i=>Hall.b2 (c i))=((List.range n).filter c).length
 | 0=>rfl
 | n+1=>by
   simp only [Hall.sm];rw [zc0 c n,range_succ,filter_append,length_append]
   cases h:c n <;> simp [h]
theorem zeB (hs r:List Int):∀ (xs:List Int) (n0:Int),n0≤r.getD 1 0 →
  xs.foldl (zci hs r) n0=min (r.getD 1 0) (n0+((xs.filter fun x=>!decide (r.getD 0 0=hs.getD (x-1).toNat 0)).length:Int))
 | [],n0,h=>by
   show n0=min (r.getD 1 0) (n0+0);omega
 | x::xs,n0,h=>by
   rw [foldl_cons,filter_cons]
   by_cases e:r.getD 0 0=hs.getD (x-1).toNat 0
   ·have e1:zci hs r n0 x=n0:=by unfold zci;rw [if_neg (fun z=>z.1 e)]
    rw [e1,zeB hs r xs n0 h,decide_eq_true e];simp
   ·rw [decide_eq_false e]
    by_cases hl:n0 < r.getD 1 0
    ·have e1:zci hs r n0 x=n0+1:=by unfold zci;rw [if_pos ⟨e,hl⟩]
     rw [e1,zeB hs r xs (n0+1) (by omega)];simp only [Bool.not_false,if_true,length_cons];omega
    ·have e1:zci hs r n0 x=n0:=by unfold zci;rw [if_neg (fun z=>hl z.2)]
     rw [e1,zeB hs r xs n0 h];simp only [Bool.not_false,if_true,length_cons];omega
def zd4 (n:Nat) (S:Nat→Bool):List Int:=((List.range n).filter S).map fun i:Nat=>1+(i:Int)
theorem zjQ (n:Nat) (S:Nat→Bool):SetM n (zd4 n S):=by
 unfold zd4;refine ⟨?_,fun x hx=>?_⟩
 ·rw [pairwise_map];refine List.Pairwise.filter _ (List.Pairwise.imp (fun h=>?_) List.pairwise_lt_range);omega
 ·obtain ⟨i,hi,rfl⟩:=mem_map.mp hx;have:=mem_range.mp (mem_filter.mp hi).1;omega
theorem up_ext:∀ {xs ys:List Int},xs.Pairwise (· < ·)→ys.Pairwise (· < ·)→(∀ m,m∈xs↔m∈ys)→xs=ys
 | [],[],_,_,_=>rfl
 | [],y::ys,_,_,h=>absurd ((h y).mpr mem_cons_self) (by simp)
 | x::xs,[],_,_,h=>absurd ((h x).mp mem_cons_self) (by simp)
 | x::xs,y::ys,hx,hy,h=>by
   obtain ⟨x1,x2⟩:=pairwise_cons.mp hx;obtain ⟨y1,y2⟩:=pairwise_cons.mp hy;have e:x=y:=by
    rcases mem_cons.mp ((h x).mp mem_cons_self) with z | z
    ·exact z
    ·rcases mem_cons.mp ((h y).mpr mem_cons_self) with z' | z'
     ·exact z'.symm
     ·have:=y1 x z;have:=x1 y z';omega
   subst e;have nx:x∉xs:=fun z=>absurd (x1 x z) (Int.lt_irrefl _);have ny:x∉ys:=fun z=>absurd (y1 x z) (Int.lt_irrefl _);rw [up_ext x2 y2 fun m=>?_]
   by_cases hm:m=x
   ·subst hm;exact ⟨fun z=>absurd z nx,fun z=>absurd z ny⟩
   ·have:=h m;simpa [hm] using this
theorem ziB {n:Nat} {xs:List Int} (h:SetM n xs):zd4 n (fun i=>decide (1+(i:Int)∈xs))=xs:=by
 refine up_ext (zjQ n _).up h.up fun m=>⟨fun z=>?_,fun z=>?_⟩
 ·unfold zd4 at z;obtain ⟨i,hi,rfl⟩:=mem_map.mp z;simpa using (mem_filter.mp hi).2
 ·have hr:=h.rng m z;unfold zd4;refine mem_map.mpr ⟨(m-1).toNat,mem_filter.mpr ⟨mem_range.mpr (by omega),?_⟩,by omega⟩;have e:1+((m-1).toNat:Int)=m:=by omega
  rw [e];simpa using z
theorem zjR (n:Nat) (S:Nat→Bool):(zd4 n S).length=Hall.sm n (fun p=>Hall.b2 (S p)):=by
 unfold zd4;rw [length_map,zc0]
theorem zjS {hs:List Int} {rs:LI} {r:Nat} (h0:0≤(rs.getD r []).getD 1 0) (n:Nat) (S:Nat→Bool) :
  zhW hs (rs.getD r []) (zd4 n S)=((min (limN rs r) (Hall.deg n (zbq hs rs) S r):Nat):Int):=by
 unfold zhW;rw [zeB hs _ _ 0 h0];have e:((zd4 n S).filter fun x=>!decide ((rs.getD r []).getD 0 0=hs.getD (x-1).toNat 0)).length=Hall.deg n (zbq hs rs) S r:=by
  unfold Hall.deg zd4;rw [zc0,filter_map,length_map,List.filter_filter]
  congr 1
  apply filter_congr;intro i _;show (_ && _)=_;have e1:(1+(i:Int)-1).toNat=i:=by omega
  simp only [Function.comp,e1];unfold zbq;exact Bool.and_comm _ _
 rw [e];unfold limN;omega
theorem zfD {hs:List Int} {rs:LI} (h0:∀ i,i < rs.length→0≤(rs.getD i []).getD 1 0) (n:Nat) (S:Nat→Bool) :
  zfz hs rs (zd4 n S)=((Hall.room n rs.length (limN rs) (zbq hs rs) S:Nat):Int):=by
 have key:∀ i,i≤rs.length→zfz hs (rs.take i) (zd4 n S)=((Hall.room n i (limN rs) (zbq hs rs) S:Nat):Int):=by
  intro i
  induction i with
  | zero=>intro _;rfl
  | succ i ih =>
    intro hi;rw [zhe _ _ _ _ (by omega),ih (by omega),zjS (h0 i (by omega))];unfold Hall.room;simp only [Hall.sm];omega
 have:=key rs.length (Nat.le_refl _)
 rwa [take_length] at this
theorem zh0 (n:Nat) (S:Nat→Bool):Hall.need n (fun _=>2) S=2 * (zd4 n S).length:=by
 rw [zjR];unfold Hall.need;have:Hall.sm n (fun p=>if S p=true then 2 else 0)=Hall.sm n (fun p=>Hall.b2 (S p)+Hall.b2 (S p)):=by
  apply Hall.sm_congr;intro i _
  cases S i <;> rfl
 rw [this,Hall.sm_add];omega
theorem zjT {hs:List Int} {rs:LI} (h0:∀ i,i < rs.length→0≤(rs.getD i []).getD 1 0) :
  Hall.Ok hs.length rs.length (limN rs) (fun _=>2) (zbq hs rs)↔∀ xs,SetM hs.length xs→agB hs rs xs=false:=by
 constructor
 ·intro h xs hx;have e:=ziB hx;have h1:=h (fun i=>decide (1+(i:Int)∈xs));have h2:=zfD (hs:=hs) h0 hs.length (fun i=>decide (1+(i:Int)∈xs));rw [zh0,e] at h1;rw [e] at h2;unfold agB;rw [decide_eq_false];omega
 ·intro h S;have h1:=h _ (zjQ hs.length S);unfold agB at h1;have h2:=of_decide_eq_false h1;rw [zfD h0] at h2;rw [zh0];omega
theorem len2 {l:List Int} (h:l.length=2):l=[l.getD 0 0,l.getD 1 0]:=by
 match l,h with
 | [a,b],_=>rfl
theorem zfV (rows:LI) (x:Int):cntB rows x=Hall.sm rows.length (fun p=>Hall.b2 (decide (x∈rows.getD p []))):=by
 rw [zc0,zgx]
structure zjU (hs:List Int) (rs rows:LI):Prop where
 len:rows.length=hs.length
 two:∀ k,k < hs.length→(rows.getD k []).length=2
 lo:∀ k,k < hs.length→1≤(rows.getD k []).getD 0 0
 lt:∀ k,k < hs.length→(rows.getD k []).getD 0 0 < (rows.getD k []).getD 1 0
 hi:∀ k,k < hs.length→(rows.getD k []).getD 1 0≤(rs.length:Int)
 a:∀ k,k < hs.length→(rs.getD ((rows.getD k []).getD 0 0-1).toNat []).getD 0 0≠hs.getD k 0
 b:∀ k,k < hs.length→(rs.getD ((rows.getD k []).getD 1 0-1).toNat []).getD 0 0≠hs.getD k 0
 lim:∀ k,k < rs.length→(cntB rows ((k:Int)+1):Int)≤(rs.getD k []).getD 1 0
theorem zb9 {rs:LI} {h:Int} {row:List Int}:zcy rs h row=true ↔
  row.length=2∧1≤row.getD 0 0∧row.getD 0 0 < row.getD 1 0∧row.getD 1 0≤(rs.length:Int)∧(rs.getD (row.getD 0 0-1).toNat []).getD 0 0≠h∧(rs.getD (row.getD 1 0-1).toNat []).getD 0 0≠h:=by
 unfold zcy;constructor
 ·intro z;simp only [Bool.and_eq_true,decide_eq_true_eq] at z;obtain ⟨⟨z1,z2⟩,z3⟩:=z;rw [len2 z1] at z2;simp only [all_cons,all_nil,Bool.and_eq_true,decide_eq_true_eq,Bool.not_eq_true',decide_eq_false_iff_not] at z2;obtain ⟨⟨⟨a1,a2⟩,a3⟩,⟨⟨b1,b2⟩,b3⟩,_⟩:=z2;exact ⟨z1,a1,z3,b2,a3,b3⟩
 ·rintro ⟨z1,a1,z3,b2,a3,b3⟩;have e:=len2 z1;generalize row.getD 0 0=x at *;generalize row.getD 1 0=y at *;subst e;simp only [all_cons,all_nil,Bool.and_eq_true,decide_eq_true_eq,Bool.not_eq_true',decide_eq_false_iff_not];refine ⟨⟨rfl,⟨⟨⟨by omega,by omega⟩,a3⟩,⟨⟨by omega,by omega⟩,b3⟩,trivial⟩⟩,z3⟩
theorem zc1 {hs:List Int} {rs rows:LI}:zaW hs rs rows=true↔zjU hs rs rows:=by
 unfold zaW;constructor
 ·intro z;simp only [Bool.and_eq_true,decide_eq_true_eq] at z;obtain ⟨⟨z1,z2⟩,z3⟩:=z;have h2:∀ k,k < hs.length→_:=fun k hk=>zb9.mp (all_eq_true.mp z2 k (mem_range.mpr hk));refine ⟨z1,fun k hk=>(h2 k hk).1,fun k hk=>(h2 k hk).2.1,fun k hk=>(h2 k hk).2.2.1,fun k hk=>(h2 k hk).2.2.2.1,fun k hk=>(h2 k hk).2.2.2.2.1,fun k hk=>(h2 k hk).2.2.2.2.2,fun k hk=>?_⟩;have:=all_eq_true.mp z3 k (mem_range.mpr hk);have e:(0:Int)+(k:Int)+1=(k:Int)+1:=by omega
  rw [e] at this;exact of_decide_eq_true this
 ·intro h;simp only [Bool.and_eq_true,decide_eq_true_eq];refine ⟨⟨h.len,zbg fun k hk=>zb9.mpr ⟨h.two k hk,h.lo k hk,h.lt k hk,h.hi k hk,h.a k hk,h.b k hk⟩⟩,zbg fun k hk=>?_⟩;have e:(0:Int)+(k:Int)+1=(k:Int)+1:=by omega
  rw [e];exact decide_eq_true (h.lim k hk)
theorem ziC {hs:List Int} {rs rows:LI} (h:zjU hs rs rows) :
  Hall.Deal hs.length rs.length (limN rs) (zbq hs rs) (fun p=>(((rows.getD p []).getD 0 0-1).toNat,((rows.getD p []).getD 1 0-1).toNat)):=by
 refine ⟨fun p hp=>?_,fun p hp=>?_,fun p hp=>?_,fun p hp=>?_,fun r hr=>?_⟩
 ·have:=h.lo p hp;have:=h.lt p hp;show ((rows.getD p []).getD 0 0-1).toNat < ((rows.getD p []).getD 1 0-1).toNat;omega
 ·have:=h.lo p hp;have:=h.lt p hp;have:=h.hi p hp;show ((rows.getD p []).getD 1 0-1).toNat < rs.length;omega
 ·show zbq hs rs p _=true;unfold zbq;rw [decide_eq_false (h.a p hp)];rfl
 ·show zbq hs rs p _=true;unfold zbq;rw [decide_eq_false (h.b p hp)];rfl
 ·have h1:=h.lim r hr;rw [zfV,h.len] at h1;have h2:Hall.sm hs.length (fun p=>Hall.b2 (r == ((rows.getD p []).getD 0 0-1).toNat || r == ((rows.getD p []).getD 1 0-1).toNat))=Hall.sm hs.length (fun p=>Hall.b2 (decide ((r:Int)+1∈rows.getD p []))):=by
   apply Hall.sm_congr;intro p hp
   congr 1
   have e:=len2 (h.two p hp);have l1:=h.lo p hp;have l2:=h.lt p hp;generalize (rows.getD p []).getD 0 0=x at *;generalize (rows.getD p []).getD 1 0=y at *;rw [e]
   by_cases e1:(r:Int)+1=x
   ·have:(r == (x-1).toNat)=true:=by simp;omega
    rw [this];simp [e1]
   ·by_cases e2:(r:Int)+1=y
    ·have:(r == (y-1).toNat)=true:=by simp;omega
     rw [this];simp [e2]
    ·have t1:(r == (x-1).toNat)=false:=by simp;omega
     have t2:(r == (y-1).toNat)=false:=by simp;omega
     rw [t1,t2];simp [e1,e2]
  show Hall.sm hs.length (fun p=>Hall.b2 (r == ((rows.getD p []).getD 0 0-1).toNat || r == ((rows.getD p []).getD 1 0-1).toNat))≤_;rw [h2];unfold limN;omega
theorem ziD {hs:List Int} {rs:LI} {D:Nat→Nat×Nat} (h0:∀ i,i < rs.length→0≤(rs.getD i []).getD 1 0)
  (h:Hall.Deal hs.length rs.length (limN rs) (zbq hs rs) D):zjU hs rs ((List.range hs.length).map fun p=>[((D p).1:Int)+1,((D p).2:Int)+1]):=by
 have g:∀ k,k < hs.length→((List.range hs.length).map fun p=>[((D p).1:Int)+1,((D p).2:Int)+1]).getD k []=[((D k).1:Int)+1,((D k).2:Int)+1]:=fun k hk=>zaD hk;refine ⟨by simp,fun k hk=>?_,fun k hk=>?_,fun k hk=>?_,fun k hk=>?_,fun k hk=>?_,fun k hk=>?_,fun k hk=>?_⟩
 ·rw [g k hk];rfl
 ·rw [g k hk];show 1≤((D k).1:Int)+1;omega
 ·rw [g k hk];have:=h.lt k hk;show ((D k).1:Int)+1 < ((D k).2:Int)+1;omega
 ·rw [g k hk];have:=h.hi k hk;show ((D k).2:Int)+1≤_;omega
 ·rw [g k hk];have:=h.a k hk;unfold zbq at this;have e:(((D k).1:Int)+1-1).toNat=(D k).1:=by omega
  show (rs.getD (((D k).1:Int)+1-1).toNat []).getD 0 0≠_;rw [e];simpa using this
 ·rw [g k hk];have:=h.b k hk;unfold zbq at this;have e:(((D k).2:Int)+1-1).toNat=(D k).2:=by omega
  show (rs.getD (((D k).2:Int)+1-1).toNat []).getD 0 0≠_;rw [e];simpa using this
 ·have h1:=h.lim k hk;rw [zfV,length_map,length_range];have h2:Hall.sm hs.length (fun p=>Hall.b2 (decide ((k:Int)+1∈((List.range hs.length).map fun p=>[((D p).1:Int)+1,((D p).2:Int)+1]).getD p [])))=Hall.sm hs.length (fun p=>Hall.b2 (k == (D p).1 || k == (D p).2)):=by
   apply Hall.sm_congr;intro p hp
   congr 1
   rw [g p hp]
   by_cases e1:k=(D p).1
   ·have:(k == (D p).1)=true:=by simp [e1]
    rw [this];simp [← e1]
   ·by_cases e2:k=(D p).2
    ·have:(k == (D p).2)=true:=by simp [e2]
     rw [this];simp [← e2]
    ·have t1:(k == (D p).1)=false:=by simp [e1]
     have t2:(k == (D p).2)=false:=by simp [e2]
     rw [t1,t2];have n1:¬((k:Int)=((D p).1:Int)):=by omega
     have n2:¬((k:Int)=((D p).2:Int)):=by omega
     simp [n1,n2]
  rw [h2];have:=h0 k hk;unfold limN at h1;omega
def nbB:LI→List (List Int)→Bool
 | t::ts,r::rs=>if t.getD 0 0=r.getD 0 0 then (if t.getD 1 0=r.getD 1 0 then nbB ts rs else decide (t.getD 1 0 < r.getD 1 0)) else decide (t.getD 0 0 < r.getD 0 0)
 | _,_=>true
theorem zeQ {hs:List Int} {rs:LI} (h0:∀ i,i < rs.length→0≤(rs.getD i []).getD 1 0) :
  (∃ rows,zaW hs rs rows=true)↔∀ xs,SetM hs.length xs→agB hs rs xs=false:=by
 rw [← zjT h0,← Hall.deal_iff];constructor
 ·rintro ⟨rows,h⟩;exact ⟨_,ziC (zc1.mp h)⟩
 ·rintro ⟨D,h⟩;exact ⟨_,zc1.mpr (ziD h0 h)⟩
def zbZ (hs:List Int) (rs:LI):Option LI→Prop
 | none=>∀ rows,zaW hs rs rows=false
 | some t=>zaW hs rs t=true∧∀ rows,zaW hs rs rows=true→nbB t rows=true
theorem zeR {α:Type} {xs:List α} {d:α} {i k:Nat} (h:i < k):(xs.take k).getD i d=xs.getD i d:=by
 rw [getD_eq_getElem?_getD,getD_eq_getElem?_getD,List.getElem?_take,if_pos h]
theorem InB.take {hs:List Int} {rs:LI} (B:InB hs rs) (k:Nat):InB hs (rs.take k):=by
 have hl:(rs.take k).length≤rs.length:=by rw [length_take];omega
 have hk:∀ i,i < (rs.take k).length→i < k∧i < rs.length:=fun i hi=>by rw [length_take] at hi;omega
 refine ⟨B.lp,by have:=B.lr;omega,B.hh,fun i hi=>?_,fun i hi=>?_,fun i hi=>?_⟩ <;> rw [zeR (hk i hi).1]
 ·exact B.r2 i (hk i hi).2
 ·exact B.rh i (hk i hi).2
 ·exact B.rl i (hk i hi).2
theorem InB.takeH {hs:List Int} {rs:LI} (B:InB hs rs) (k:Nat):InB (hs.take k) rs:=by
 have hl:(hs.take k).length≤hs.length:=by rw [length_take];omega
 refine ⟨by have:=B.lp;omega,B.lr,fun i hi=>?_,B.r2,B.rh,B.rl⟩;rw [length_take] at hi;rw [zeR (by omega)];exact B.hh i (by omega)
theorem LL.push {K:PySem.W.Frag} {H:Hp} {p q:Addr} {rs:LI} {r:List Int} {ps:List Addr} (e:H p=some (.lst (ps.map V.ref++[.ref q]))) (hl:ps.length=rs.length) (hq:H q=some (.lst (r.map V.int)))
  (hall:∀ i,i < rs.length→H (ps.getD i 0)=some (.lst ((rs.getD i []).map V.int))):LL K H p (rs++[r]):=by
 have e':ps.map V.ref++[.ref q]=(ps++[q]).map V.ref:=by simp
 rw [e'] at e;refine ⟨ps++[q],SqL.of e,by simp [hl],fun i hi=>?_⟩
 by_cases h:i < rs.length
 ·rw [zaB (by omega),zaB h];exact hall i h
 ·have h2:i=rs.length:=by simp only [length_append,length_cons,length_nil] at hi;omega
  subst h2;rw [zaC,← hl,zaC];exact hq
def zbm (x y s:Int):Bool:=decide (x-y≤s∧y-x≤s)
def min2 (x y:Int):Int:=if y < x then y else x
def max2 (x y:Int):Int:=if y > x then y else x
def zfn (x y s:Int):List Int:=if zbm x y s then (if (x+y) % 2=1 then [x+y,2] else [(x+y) / 2,1]) else [min2 x y,1]
def mid3 (x y z:Int):Int:=x+y+z-max2 (max2 x y) z-min2 (min2 x y) z
theorem zkZ (x y z:Int):mid3 x y z=x∨mid3 x y z=y∨mid3 x y z=z:=by
 unfold mid3 min2 max2
 repeat' split
 all_goals omega
def za1 (rs rows:LI):List Int:=(List.range rs.length).map fun k=>(rs.getD k []).getD 1 0-(cntB rows ((k:Int)+1):Int)
structure Low (top bottom t b:Int):Prop where
 t0:0≤t
 b1:1≤b
 eq:t * bottom=top * b
 co:Int.gcd t b=1
 tl:t≤top
 bl:b≤bottom
end Prf
namespace Prf
open PySem PySem.Spec PyProof.Rows L2
end Prf
namespace L2
open PySem PySem.Spec PyProof.Rows
theorem sum_rng:∀ (ns:List Int) (B:Int),0≤B→(∀ x∈ns,0≤x∧x≤B)→0≤ns.sum∧ns.sum≤B * ns.length
 | [],B,hB,_=>by simp
 | n::ns,B,hB,h=>by
   have h1:=h n mem_cons_self;have h2:=sum_rng ns B hB fun x hx=>h x (mem_cons_of_mem _ hx);rw [sum_cons,length_cons];have e:B * ((ns.length+1:Nat):Int)=B * ns.length+B:=by
    rw [Int.natCast_add,Int.mul_add];simp
   omega
section
variable {X:Cx} {K:PySem.W.Frag}
def cSum (K:PySem.W.Frag):List V→Hp→VK→Prop:=fun xs H Q=>∃ (a:Addr) (ns:List Int),xs=[.ref a]∧SqL K H a (ns.map V.int)∧(∀ x∈ns,0≤x∧x≤1000000)∧ns.length≤1000∧Q (.int ns.sum) H
theorem zc2 (hK:X.K=K) (hc:X.calm=true):zdj X (.builtin "sum") (cSum K):=by
 subst hK;intro pins s σ H xs us Q I r h;obtain ⟨a,ns,rfl,hl,hb,hz,q⟩:=h;obtain ⟨u,rfl,ru⟩:=r.one
 cases ru
 obtain ⟨its,rv,pl,_⟩:=I.list hl;have hi:=intsAre_of rv;have ha:AllInts its.toArray:=hi.allInts;obtain ⟨zs,ez⟩:=ha.items;have en:zs.toList.map (·.1)=ns:=by
  have h1:=nums_intItems zs;rw [← ez] at h1;rw [← h1];exact hi.numsOf
 refine sum_intList (xs:=zs) (I.ok.hd hc) (by rw [← ez];exact pl.isList) (fun j hj=>?_) fun h' tk t' k=>⟨.int ns.sum,H,I.kept k,⟨t',?_⟩,q⟩
 ·rw [numAt_eq,preSum_eq,en];have hjn:j < ns.length:=by rw [← en];simpa using hj
  have h0:=hb (ns.getD j 0) (by rw [getD_eq_getElem?_getD,getElem?_eq_getElem hjn];exact getElem_mem hjn);have h1:=sum_rng (ns.take (j+1)) 1000000 (by decide) fun x hx=>hb x (List.mem_of_mem_take hx);have h2:((ns.take (j+1)).length:Int)≤1000:=by rw [length_take];omega
  exact ⟨⟨by omega,by omega⟩,⟨by omega,by omega⟩⟩
 ·rw [preSum_eq,en,take_of_length_le (by rw [← en];simp)]
def zns (K:PySem.W.Frag):List V→Hp→VK→Prop:=fun xs H Q=>∃ (a:Addr) (ns:List Int),xs=[.ref a]∧SqL K H a (ns.map V.int)∧0 < ns.length∧∀ m∈ns,(∀ x∈ns,m≤x)→Q (.int m) H
theorem zc3 (hK:X.K=K) (hc:X.calm=true):zdj X (.builtin "min") (zns K):=by
 subst hK;intro pins s σ H xs us Q I r h;obtain ⟨a,ns,rfl,hl,hz,q⟩:=h;obtain ⟨u,rfl,ru⟩:=r.one
 cases ru
 obtain ⟨its,rv,pl,_⟩:=I.list hl;have hi:=intsAre_of rv;have ha:AllInts its.toArray:=hi.allInts;obtain ⟨zs,ez⟩:=ha.items;have en:zs.toList.map (·.1)=ns:=by
  have h1:=nums_intItems zs;rw [← ez] at h1;rw [← h1];exact hi.numsOf
 have hs:0 < zs.size:=by
  have:zs.size=ns.length:=by rw [← en];simp
  omega
 refine min_intList (xs:=zs) (I.ok.hd hc) (by rw [← ez];exact pl.isList) hs fun v h' tk hv k=>?_;obtain ⟨t,rfl⟩:=intItems_at hv;obtain ⟨h1,h2⟩:=argBest_lt (numAt zs) (zs.size-1);refine ⟨.int _,H,I.kept k,⟨t,rfl⟩,q _ ?_ fun x hx=>?_⟩
 ·rw [numAt_eq,← en];exact getD_mem (by rw [length_map,Array.length_toList];omega)
 ·rw [← en] at hx;obtain ⟨j,hj,ej⟩:=mem_getD (d:=0) hx;rw [← ej];rw [length_map,Array.length_toList] at hj;rw [← numAt_eq];exact h2 j (by omega)
def zjV (K:PySem.W.Frag):List V→Hp→VK→Prop:=fun xs H Q=>∃ (a:Addr) (ns:List Int),xs=[.ref a]∧SqL K H a (ns.map V.int)∧ns.length < 64∧∀ ns':List Int,ns'.Perm ns→ns'.Pairwise (·≤·)→∀ p,H p=none→Q (.ref p) (upd H p (.lst (ns'.map V.int)))
theorem zef (hK:X.K=K):zdj X (.builtin "sorted") (zjV K):=by
 subst hK;intro pins s σ H xs us Q I r h;obtain ⟨a,ns,rfl,hl,hz,q⟩:=h;obtain ⟨u,rfl,ru⟩:=r.one
 cases ru
 obtain ⟨its,rv,pl,_⟩:=I.list hl;have hi:=intsAre_of rv;have hlen:its.length < 64:=by rw [← rv.length,length_map];exact hz
 refine sorted_ints pl.isList hi hlen fun out ns' a1 a2 a3=>?_;obtain ⟨e,he⟩:=sortedAll_at s.heap its out;have hf:H (s.heap.objs.size+1)=none:=I.hok.fresh (le_succ _);refine ⟨.ref (s.heap.objs.size+1),_,I.laid (t':=s.toks) (o:=.lst (ns'.map V.int)) (fun b o x=>sortedAll_old x) (le_succ _) ?_,rfl,q ns' a2 a3 _ hf⟩;refine ⟨by rw [length_map,a2.length_eq,sizeLine_eq];omega,out.toList,e,vals_ints a1,?_⟩;exact he
def cAll (K:PySem.W.Frag):List V→Hp→VK→Prop:=fun xs H Q=>∃ (a:Addr) (bs:List Bool),xs=[.ref a]∧SqL K H a (bs.map V.bl)∧Q (.bl (bs.all id)) H
theorem all_range (bs:List Bool) (f:Nat→Bool) (h:∀ i,i < bs.length→f i=bs.getD i true):(List.range bs.length).all f=bs.all id:=by
 rw [Bool.eq_iff_iff,all_eq_true,all_eq_true];constructor
 ·intro g x hx;obtain ⟨i,hi,rfl⟩:=getElem_of_mem hx;have:=g i (mem_range.mpr hi);rw [h i hi,getD_eq_getElem?_getD,getElem?_eq_getElem hi] at this;exact this
 ·intro g i hi;have hi':=mem_range.mp hi;rw [h i hi',getD_eq_getElem?_getD,getElem?_eq_getElem hi'];exact g _ (getElem_mem hi')
theorem zjW (hK:X.K=K) (hc:X.calm=true):zdj X (.builtin "all") (cAll K):=by
 subst hK;intro pins s σ H xs us Q I r h;obtain ⟨a,bs,rfl,hl,q⟩:=h;obtain ⟨u,rfl,ru⟩:=r.one
 cases ru
 obtain ⟨its,rv,pl,_⟩:=I.list hl;have Ls:=pl.isList;obtain ⟨ol,el,_⟩:=id Ls;have Ll:=Heap.lt_size el;have lb:bs.length=its.length:=by have:=rv.length;rw [length_map] at this;exact this
 refine call_all_walk (wpAny_pyIter_list Ls ⟨_,_,_,_,_,_,fun i=>bs.getD i true,rfl,Walks.list (A:=X.A.in1) (I.ok.hd hc) s.heap.objs.size a (Nat.ne_of_lt Ll) its.toArray,⟨?_,?_⟩,?_,?_⟩)
 ·exact ⟨_,Heap.get?_push_size _ rfl,rfl,rfl⟩
 ·exact Ls.at fun o x=>Heap.get?_push_of_some _ x
 ·intro i v s' Q' E' hv hq;rw [List.getElem?_toArray] at hv;have hi:i < its.length:=(List.getElem?_eq_some_iff.mp hv).1;obtain ⟨u',hu,ru⟩:=rv.get (i:=i) (x:=.bl (bs.getD i true)) (by rw [getElem?_map,getElem?_eq_getElem (by omega),getD_eq_getElem?_getD,getElem?_eq_getElem (by omega)];rfl);have e:v=.bool (bs.getD i true):=by
   rw [hu] at hv;rw [← Option.some.inj hv];exact ru
  subst e;exact wpAny_truthy_bool hq
 ·intro h' tk k;have e:(List.range its.toArray.size).all (fun i=>bs.getD i true)=bs.all id:=by
   rw [size_toArray,← lb];exact all_range bs _ fun i _=>rfl
  rw [e];exact ⟨.bl _,H,I.kept fun b o x=>k b o (by have:=Nat.ne_of_lt (Heap.lt_size x);simpa using this) (Heap.get?_push_of_some _ x),rfl,q⟩
end
section
variable {σ:St} {H:Hp} {Q:VK} {K:PySem.W.Frag} {a:Addr} {ns:List Int} {bs:List Bool}
theorem zdN (h:SqL K H a (ns.map V.int)) (hb:∀ x∈ns,0≤x∧x≤1000000) (hz:ns.length≤1000) (q:Q (.int ns.sum) H):cSum K [.ref a] H Q:=⟨a,ns,rfl,h,hb,hz,q⟩
theorem zc4 (h:SqL K H a (ns.map V.int)) (hz:0 < ns.length) (q:∀ m∈ns,(∀ x∈ns,m≤x)→Q (.int m) H):zns K [.ref a] H Q:=⟨a,ns,rfl,h,hz,q⟩
theorem zeS (h:SqL K H a (ns.map V.int)) (hz:ns.length < 64) (q:∀ ns':List Int,ns'.Perm ns→ns'.Pairwise (·≤·)→∀ p H2,H p=none→Same H H2→H2 p=some (.lst (ns'.map V.int))→Q (.ref p) H2):zjV K [.ref a] H Q :=
 ⟨a,ns,rfl,h,hz,fun ns' h1 h2 p hp=>q ns' h1 h2 p _ hp (zaY hp) zaz⟩
theorem zk0 (h:SqL K H a (bs.map V.bl)) (q:Q (.bl (bs.all id)) H):cAll K [.ref a] H Q:=⟨a,bs,rfl,h,q⟩
end
end L2
namespace L2
open PySem PySem.Spec PyProof.Rows
section
variable {σ:St} {H:Hp} {Q:VK} {K:PySem.W.Frag} {js:List Nat} {te:TE} {tc:TT} {J:It} {n k:Nat} {x y:Nat→V} {g:TG} {w:Nat→St}
def zhi (J:It) (k:Nat) (js:List Nat) (g:TG) (tc:TT) (te:TE) (σ:St) (H:Hp) (Q:VK):Prop:=∀ p,H p=none →
 ∃ W:Nat→Nat→St→Hp→Prop,(∃ m,W 0 m (capS k js σ) (upd H p (.lst [])))∧∀ i m σc H,W i m σc H →
  (J.stop i H∧Q (.ref p) H)∨(J.go i H∧∃ N:St→Hp→Prop,(∀ σ' H',N σ' H'→∃ m',m' < m∧W (i+1) m' σ' H')∧∀ x H',J.yld i H x H' →
   g x σc H' fun σ2 H2=>tc σ2 H2 fun b H3=>if b=true then te σ2 H3 fun v H4=>∃ ys,H4 p=some (.lst ys)∧ys.length < sizeLine∧N σ2 (upd H4 p (.lst (ys++[v]))) else N σ2 H3)
theorem zcj (h:zhi J 1 js (zcS 0) tc te σ H Q):zeO J js tc te σ H Q:=h
structure zcr (J:It) (n k:Nat) (js:List Nat) (σ:St) (g:TG) (w:Nat→St) (H:Hp):Prop where
 len:∀ i,(w i).length=k
 go:∀ i H',Same H H'→i < n→J.go i H'
 stop:∀ H',Same H H'→J.stop n H'
 yld:∀ i H' v H2 (u:St) (N:St→Hp→Prop),Same H H'→i < n→u.length=k→J.yld i H' v H2→(∀ H3,Same H' H3→N (w i++capV js σ) H3)→g v (u++capV js σ) H2 N
theorem zcr.one (it:Iter J n x H):zcr J n 1 js σ (zcS 0) (fun i=>[some (x i)]) H where
 len:=fun _=>rfl
 go:=it.go
 stop:=it.stop
 yld:=fun i H' v H2 u N s hi hu hy q=>by
  obtain ⟨rfl,rfl⟩:=it.yld i H' v H2 s hi hy
  match u,hu with
  | [a],_=>exact q _ (Same.refl _)
theorem zgz (T:zcr J n k js σ g w H) (hz:n≤1000) (c:Nat→Bool) (f:Nat→V)
  (ht:∀ i H' Q',i < n→Same H H'→(∀ H2,Same H' H2→Q' (c i) H2)→tc (w i++capV js σ) H' Q')
  (he:∀ i H' Q',i < n→Same H H'→c i=true→(∀ H2,Same H' H2→Q' (f i) H2)→te (w i++capV js σ) H' Q')
  (hq:∀ p H2,H p=none→Same H H2→H2 p=some (.lst (((List.range n).filter c).map f))→Q (.ref p) H2):zhi J k js g tc te σ H Q:=by
 intro p hp;refine ⟨fun i m σc H'=>m=n-i∧i≤n∧(∃ u:St,u.length=k∧σc=u++capV js σ)∧Same H H'∧H' p=some (.lst (((List.range i).filter c).map f)),⟨n,by simp,zero_le _,⟨List.replicate k none,length_replicate,rfl⟩,zaY hp,zaz⟩,?_⟩;rintro i m σc H' ⟨rfl,hi,⟨u,hu,rfl⟩,s,hpp⟩;have hlen:(((List.range i).filter c).map f).length≤i:=by
  rw [length_map];exact Nat.le_trans (length_filter_le _ _) (by simp)
 have hsl:n < sizeLine:=za0 hz
 by_cases hlt:i < n
 ·refine .inr ⟨T.go i _ s hlt,fun σ' H'=>(∃ u:St,u.length=k∧σ'=u++capV js σ)∧Same H H'∧H' p=some (.lst (((List.range (i+1)).filter c).map f)),fun σ' H' ⟨h1,h2,h3⟩=>⟨n-(i+1),by omega,rfl,hlt,h1,h2,h3⟩,fun v H2 hy=>?_⟩;have e:(List.range (i+1)).filter c=(List.range i).filter c++if c i=true then [i] else []:=by
   rw [range_succ,filter_append]
   cases hc:c i <;> simp [hc]
  refine T.yld i H' v H2 u _ s hlt hu hy fun H3 s3=>?_;refine ht i _ _ hlt (s.trans s3) fun H4 s4=>?_;have s34:=s3.trans s4
  cases hc:c i with
  | false =>
    rw [if_neg Bool.false_ne_true];refine ⟨⟨w i,T.len i,rfl⟩,s.trans s34,?_⟩;rw [e,hc];simpa using s34 _ _ hpp
  | true =>
    rw [if_pos rfl];refine he i _ _ hlt (s.trans s34) hc fun H5 s5=>?_;refine ⟨_,s5 _ _ (s34 _ _ hpp),by omega,⟨w i,T.len i,rfl⟩,zey ((s.trans s34).trans s5) hp,?_⟩;rw [zaz,e,hc];simp
 ·have e:i=n:=by omega
  subst e;exact .inl ⟨T.stop _ s,hq p _ hp s hpp⟩
theorem zca (T:zcr J n k js σ g w H) (hz:n≤1000) (f:Nat→List Int)
  (he:∀ i H' Q',i < n→Same H H'→(∀ q H2,H' q=none→Same H' H2→H2 q=some (.lst ((f i).map V.int))→Q' (.ref q) H2)→te (w i++capV js σ) H' Q')
  (hq:∀ p H2,RowsAt H p ((List.range n).map f) H2→Q (.ref p) H2):zhi J k js g tTT te σ H Q:=by
 intro p hp;refine ⟨fun i m σc H'=>m=n-i∧i≤n∧(∃ u:St,u.length=k∧σc=u++capV js σ)∧RowsAt H p ((List.range i).map f) H',⟨n,by simp,zero_le _,⟨List.replicate k none,length_replicate,rfl⟩,RowsAt.start hp (zaY hp) zaz⟩,?_⟩;rintro i m σc H' ⟨rfl,hi,⟨u,hu,rfl⟩,R⟩;have s:=R.same;have hsl:n < sizeLine:=za0 hz
 by_cases hlt:i < n
 ·refine .inr ⟨T.go i _ s hlt,fun σ' H'=>(∃ u:St,u.length=k∧σ'=u++capV js σ)∧RowsAt H p ((List.range (i+1)).map f) H',fun σ' H' ⟨h1,h2⟩=>⟨n-(i+1),by omega,rfl,hlt,h1,h2⟩,fun v H2 hy=>?_⟩;refine T.yld i H' v H2 u _ s hlt hu hy fun H3 s3=>?_;refine r_tt ?_;rw [if_pos rfl];refine he i _ _ hlt (s.trans s3) fun q H4 f4 s4 e4=>?_;obtain ⟨zs,hzs,hzl⟩:=R.lst;have hzn:zs.length=i:=by rw [hzl];simp
  have hp4:=s4 _ _ (s3 _ _ hzs);refine ⟨zs,hp4,by omega,⟨w i,T.len i,rfl⟩,?_⟩;rw [range_succ,map_append];exact R.push (s3.free f4) (s3.trans s4) e4 hp4 But.upd zaz
 ·have e:i=n:=by omega
  subst e;exact .inl ⟨T.stop _ s,hq p _ R⟩
end
end L2
namespace L2
open PySem PySem.Spec PyProof.Rows
section
variable {prog:Program} {w:World} {A:Around} {E:Value→Shared→Prop} {s:Shared}
abbrev kwS (v:Value):List (Str×Value):=[(Str.ofString "start",v)]
theorem ziE (a v:Value):checkTypeCall "enumerate" ⟨[a],kwS v⟩=pure ():=by kernel_rfl
theorem zjX (a v:Value):checkBuiltinCall "enumerate.__new__" ⟨[.type "enumerate",a],kwS v⟩=pure ():=by kernel_rfl
theorem ziF (a b v:Value):argsOk "object.__init__" ⟨[a,b],kwS v⟩:=by unfold argsOk;kernel_rfl
theorem zhj (l:Addr) (items:Array Value) (n:Nat) (dct:Option Addr) (sl:Array (Option Value)) (t:Tok) :
  Meets (Builtin.«enumerate.__new__» ⟨[.type "enumerate",.ref l],kwS (.int 1 t)⟩) (fun _ R s=>s.heap.get? l=some { cls:=.type "list",dict:=dct,data:=.seq items n,slots:=sl } ∧
   R (.ok (.ret (.ref (s.heap.push { cls:=.type "list_iterator",data:=.fields #[.ref l,.int 0 0] }).objs.size)))
    { s with heap:=(s.heap.push { cls:=.type "list_iterator",data:=.fields #[.ref l,.int 0 0] }).push { cls:=.type "enumerate",data:=.fields #[.none,.bool false,.ref s.heap.objs.size,rawInt 1,.none,.none] } }) :=
 .of_wp fun prog w A R s ⟨hl,h⟩=>by
  obtain ⟨hp,g,d,tk,os⟩:=s;have hsub:=sub_enumerate;have hL:Heap.IsList (Shared.heap ⟨hp,g,d,tk,os⟩) l items:=⟨_,hl,rfl,n,rfl⟩
  wp_walk using AutoSeq1.wpAny_loadPart' hl
  refine wpAny_stack_any fun st=>wpAny_pure ?_;split
  ·rename_i c _ _ _ _ _
   cases hcc:(c == Value.type "enumerate")
   ·wp_walk using AutoSeq1.wpAny_loadPart' hl,wpAny_pyIter_list hL
    exact ⟨_,rfl,h⟩
   ·wp_walk using AutoSeq1.wpAny_loadPart' hl,wpAny_pyIter_list hL
    exact ⟨_,rfl,h⟩
  ·wp_walk using AutoSeq1.wpAny_loadPart' hl,wpAny_pyIter_list hL
   exact ⟨_,rfl,h⟩
theorem zhk (self a v:Value):Meets (Builtin.«object.__init__» ⟨[self,a],kwS v⟩) (fun _ R s=>s.TypeIs self "enumerate"∧R (.ok (.ret .none)) s):=by
 refine Meets.of_wp fun prog w A R s hs=>?_;obtain ⟨hT,hq⟩:=hs;have hl:=F.called_enumerate.init.lookup;have hm:=F.called_enumerate.made;have hne:(some "enumerate.__new__" != some "object.__new__")=true:=by decide
 repeat (any_goals (first | (assumption) | wp_step))
 exact ⟨_,rfl,hq⟩
theorem ziG {l:Addr} {items:Array Value} {t:Tok} {Q:Value→Shared→Prop} (hL:s.heap.IsList l items)
  (h:∀ h',IsEnum h' (s.heap.objs.size+1) s.heap.objs.size 1 .none→h'.IsListIter s.heap.objs.size l 0→(∀ b o,s.heap.get? b=some o→h'.get? b=some o)→Q (.ref (s.heap.objs.size+1)) { s with heap:=h' }) :
  wpAny (model prog w) A (call (.type "enumerate") [.ref l] (kwS (.int 1 t))) Q E s:=by
 obtain ⟨⟨c,dct,dt,sl⟩,hl,hc,n,hd⟩:=hL;obtain rfl:c=.type "list":=hc;obtain rfl:dt=.seq items n:=hd;have ft:=F.called_enumerate;obtain ⟨c0,tl,hmro⟩:=ft.mro;have hmade:=ft.made;have hsub:=ft.sub;have hct:=ziE (.ref l) (.int 1 t);refine wpAny_call (codeAny_of_tree ?_);show wpAny _ _ (callAny (.type "enumerate") _) _ _ _;refine wpAny_pure ⟨Code.quiet_builtin _ (by decide +kernel),codeAny_builtin F.entry_type_call ?_⟩;rw [Around.under_plain (weight_type_call_type "enumerate" [.ref l] (kwS (.int 1 t))) (units_type_call_type "enumerate" [.ref l] (kwS (.int 1 t)))];have n1:=ft.notType;have n2:=ft.canCreate
 repeat (any_goals (first | (assumption) | wp_step))
 have hz:(s.heap.push { cls:=.type "list_iterator",data:=.fields #[.ref l,.int 0 0] }).objs.size=s.heap.objs.size+1:=Heap.size_push ..
 let R0:Result→Shared→Prop:=fun r s'=>r=.ok (.ret (.ref (s.heap.objs.size+1)))∧∃ h',s'={ s with heap:=h' }∧IsEnum h' (s.heap.objs.size+1) s.heap.objs.size 1 .none∧h'.IsListIter s.heap.objs.size l 0∧(∀ b o,s.heap.get? b=some o→h'.get? b=some o)
 have key:codeAny (model prog w) A.in1 (Code.call (.builtin "enumerate.__new__") ⟨[.type "enumerate",.ref l],kwS (.int 1 t)⟩) R0 s:=by
  refine codeAny_call_builtin ft.plain F.entry_enumerate_new (wpAny_of_eq (zjX _ _) (zhj l items n dct sl t prog w A.in1 R0 s ⟨hl,?_⟩));rw [hz];refine ⟨rfl,_,rfl,?_,⟨_,Heap.get?_push_of_some _ (Heap.get?_push_size _ rfl),rfl,rfl⟩,fun b o x=>Heap.get?_push_of_some _ (Heap.get?_push_of_some _ x)⟩;have e:=Heap.get?_push_size (s.heap.push { cls:=.type "list_iterator",data:=.fields #[.ref l,.int 0 0] }) (o:={ cls:=.type "enumerate",data:=.fields #[.none,.bool false,.ref s.heap.objs.size,rawInt 1,.none,.none] }) rfl;rw [hz] at e;exact e
 refine codeAny_mono key fun r s1 hr=>?_;obtain ⟨rfl,h',rfl,a1,a2,a3⟩:=hr;have hT:Shared.TypeIs { s with heap:=h' } (.ref (s.heap.objs.size+1)) "enumerate":=⟨_,a1,rfl⟩
 have hli:=ft.init.lookup;have hbi:=ft.init.bind (.ref (s.heap.objs.size+1))
 repeat (any_goals (first | (assumption) | wp_step))
 let R1:Result→Shared→Prop:=fun r s'=>r=.ok (.ret .none)∧s'={ s with heap:=h' }
 have key2:codeAny (model prog w) A.in1 (Code.call (.builtin "object.__init__") ⟨[.ref (s.heap.objs.size+1),.ref l],kwS (.int 1 t)⟩) R1 { s with heap:=h' } :=
  codeAny_call_builtin ft.init.plain F.entry_object_init (ft.init.check _ _ _ _ _ _ _ _ hT (ziF _ _ _) (zhk _ _ _ prog w A.in1 R1 _ ⟨hT,rfl,rfl⟩))
 refine codeAny_mono key2 fun r s2 hr=>?_;obtain ⟨rfl,rfl⟩:=hr
 repeat (any_goals (first | (assumption) | wp_step))
 exact h _ a1 a2 a3
theorem ziH {e it l:Addr} {i:Nat} {c:Int} {xs:Array Value} {x old:Value} {Q:Value→Shared→Prop} (he:IsEnum s.heap e it c old) (hit:s.heap.IsListIter it l i) (hl:s.heap.IsList l xs) (hx:xs[i]? = some x) (ne:e≠it)
  (q:∀ k,IsEnumOut k e it (c+1) x s.heap.objs.size→k.IsListIter it l (i+1)→k.get? s.heap.objs.size=some { cls:=.type "tuple",data:=.seq #[.int c s.toks,x] } →
   (∀ b o,b≠e→b≠it→s.heap.get? b=some o→k.get? b=some o)→Q (.ref s.heap.objs.size) { s with heap:=k,toks:=s.toks+1 }) :
  wpAny (model prog w) A (Builtin.«enumerate.__next__» ⟨[.ref e],[]⟩) (fun fin s'=>∃ v,fin=.done (.ret v)∧Q v s') E s:=by
 obtain ⟨g0,ge,dr,tk,os⟩:=s;have elt:e < g0.objs.size:=Heap.lt_size he;show wpAny _ _ (field (.ref e) 2 >>= _) _ _ _;refine wpAny_bind (wpAny_field he rfl (x:=.ref it) rfl (wpAny_bind (wpAny_nextOf_list_item hit hl hx fun g1 i1 b1=>?_)));replace b1:Heap.SameBut it g0 g1:=b1;have e1:IsEnum g1 e it c old:=(b1.2 e ne).trans he;show wpAny _ _ (field (.ref e) 3 >>= _) _ _ ⟨g1,ge,dr,tk,os⟩;refine wpAny_bind (wpAny_field e1 rfl (x:=rawInt c) rfl ?_);show wpAny _ _ (field (.ref e) 4 >>= _) _ _ ⟨g1,ge,dr,tk,os⟩;refine wpAny_bind (wpAny_field e1 rfl (x:=.none) rfl ?_);show wpAny _ _ (mkInt c >>= _) _ _ ⟨g1,ge,dr,tk,os⟩;refine wpAny_bind (wpAny_mkInt ?_);show wpAny _ _ (setField (.ref e) 3 (rawInt (c+1)) >>= _) _ _ ⟨g1,ge,dr,tk+1,os⟩;refine wpAny_bind (wpAny_setField_rec e1 (by simp) fun g2 e2 b2=>?_);replace b2:Heap.SameBut e g1 g2:=b2;replace e2:IsEnum g2 e it (c+1) old:=e2;show wpAny _ _ (setField (.ref e) 4 .none >>= _) _ _ ⟨g2,ge,dr,tk+1,os⟩;refine wpAny_bind (wpAny_setField_rec e2 (by simp) fun g3 e3 b3=>?_);replace b3:Heap.SameBut e g2 g3:=b3;replace e3:IsEnum g3 e it (c+1) old:=e3;show wpAny _ _ (newTuple [.int c tk,x] >>= _) _ _ ⟨g3,ge,dr,tk+1,os⟩;refine wpAny_bind (wpAny_newTuple ?_);have z3:g3.objs.size=g0.objs.size:=by rw [b3.1,b2.1,b1.1]
 have keep3:∀ b o,b≠e→b≠it→g0.get? b=some o→g3.get? b=some o:=fun b o n1 n2 y=>b3.extBut b o n1 (b2.extBut b o n1 (b1.extBut b o n2 y));have i3:g3.IsListIter it l (i+1):=(i1.extBut b2.extBut ne.symm).extBut b3.extBut ne.symm;have e4:IsEnum (g3.push { cls:=.type "tuple",data:=.seq #[.int c tk,x] }) e it (c+1) old:=Heap.get?_push_of_some _ e3;have t4:(g3.push { cls:=.type "tuple",data:=.seq #[.int c tk,x] }).get? g0.objs.size=some { cls:=.type "tuple",data:=.seq #[.int c tk,x] }:=by rw [← z3];exact Heap.get?_push_size _ rfl
 have keep4:∀ b o,b≠e→b≠it→g0.get? b=some o→(g3.push { cls:=.type "tuple",data:=.seq #[.int c tk,x] }).get? b=some o:=fun b o n1 n2 y=>Heap.get?_push_of_some _ (keep3 b o n1 n2 y);have i4:(g3.push { cls:=.type "tuple",data:=.seq #[.int c tk,x] }).IsListIter it l (i+1):=i3.at fun o y=>Heap.get?_push_of_some _ y;rw [z3];generalize g3.push { cls:=.type "tuple",data:=.seq #[.int c tk,x] }=g4 at e4 t4 keep4 i4;show wpAny _ _ (Builtin.SmallTypes.ownedTupleIsFree (.ref e) >>= _) _ _ ⟨g4,ge,dr,tk+1,os⟩;refine wpAny_bind ?_;unfold Builtin.SmallTypes.ownedTupleIsFree;refine wpAny_bind (wpAny_field e4 rfl (x:=.none) rfl (wpAny_pure ?_));simp only [if_true];refine wpAny_bind (wpAny_rule (wpAny_bind (wpAny_field e4 rfl (x:=old) rfl (wpAny_bind (wpAny_setField_rec e4 (by simp) fun g5 e5 b5=>?_)))));replace b5:Heap.SameBut e g4 g5:=b5;replace e5:IsEnum g5 e it (c+1) x:=e5;show wpAny _ _ (Builtin.SmallTypes.ownedTupleHandOut (.ref e) (.ref g0.objs.size) >>= _) _ _ ⟨g5,ge,dr,tk+1,os⟩;refine wpAny_bind ?_;unfold Builtin.SmallTypes.ownedTupleHandOut;refine wpAny_bind (wpAny_setField_rec e5 (by simp) fun g6 e6 b6=>?_);replace b6:Heap.SameBut e g5 g6:=b6;replace e6:IsEnumOut g6 e it (c+1) x g0.objs.size:=e6;refine wpAny_setField_rec e6 (by simp) fun g7 e7 b7=>?_;replace b7:Heap.SameBut e g6 g7:=b7;have far:∀ b o,b≠e→g4.get? b=some o→g7.get? b=some o:=fun b o n1 y=>b7.extBut b o n1 (b6.extBut b o n1 (b5.extBut b o n1 y));exact wpAny_bind (wpAny_letGo (wpAny_pure ⟨_,rfl,q g7 e7 (i4.at fun o y=>far it o ne.symm y) (far _ _ (Nat.ne_of_gt elt) t4) fun b o n1 n2 y=>far b o n1 (keep4 b o n1 n2 y)⟩))
theorem ziI {e it l:Addr} {i:Nat} {c:Int} {xs:Array Value} {x old:Value} {Q:Option Value→Shared→Prop} (he:IsEnum s.heap e it c old) (hit:s.heap.IsListIter it l i) (hl:s.heap.IsList l xs) (hx:xs[i]? = some x) (ne:e≠it)
  (q:∀ k,IsEnumOut k e it (c+1) x s.heap.objs.size→k.IsListIter it l (i+1)→k.get? s.heap.objs.size=some { cls:=.type "tuple",data:=.seq #[.int c s.toks,x] } →
   (∀ b o,b≠e→b≠it→s.heap.get? b=some o→k.get? b=some o)→Q (some (.ref s.heap.objs.size)) { s with heap:=k,toks:=s.toks+1 }) :
  wpAny (model prog w) A (pyNext (.ref e)) Q E s:=by
 have hT:s.TypeIs (.ref e) "enumerate":=⟨_,he,rfl⟩
 unfold pyNext;refine wpAny_bind (wpAny_attempt (wpAny_callSpecial?_slot (name:=Str.ofString "__next__") hT F.slot_enumerate_next (wpAny_call_entry F.slot_enumerate_next hT F.entry_enumerate_next ?_ (F.args_enumerate_next_1 _))));exact ziH he hit hl hx ne fun k a b d f=>wpAny_pure (q k a b d f)
theorem zjY {e it l:Addr} {i:Nat} {c:Int} {xs:Array Value} {old:Value} {Q:Option Value→Shared→Prop} (hh:A.handled=none) (he:IsEnum s.heap e it c old) (hit:s.heap.IsListIter it l i) (hl:s.heap.IsList l xs) (hx:xs[i]? = none)
  (q:∀ k,Heap.ExtBut it s.heap k→Q none { s with heap:=k }):wpAny (model prog w) A (pyNext (.ref e)) Q E s:=by
 have hT:s.TypeIs (.ref e) "enumerate":=⟨_,he,rfl⟩
 unfold pyNext;refine wpAny_bind (wpAny_attempt (wpAny_callSpecial?_slot (name:=Str.ofString "__next__") hT F.slot_enumerate_next (wpAny_call_entry F.slot_enumerate_next hT F.entry_enumerate_next ?_ (F.args_enumerate_next_1 _))));show wpAny _ _ (field (.ref e) 2 >>= _) _ _ _;refine wpAny_bind (wpAny_field he rfl (x:=.ref it) rfl (wpAny_bind (wpAny_nextOf_list_end hh hit hl hx fun k y hk hy=>?_)));obtain ⟨o,ho,hc⟩:=hy;exact wpAny_bind (wpAny_isInstance (T:="StopIteration") (b:=true) ⟨o,ho,hc⟩ isSubtype_stop (wpAny_pure (q _ hk)))
theorem zfW {M:Model} {env:Env} {pos:Pos} {T:String} {e:Expr} {rest:List Expr} {kws:List Keyword} {Q:Value→Shared→Prop}
  (h:wpAny M A (spliced (backTo pos (starEach (e::rest) env))) (fun vs s1=>wpAny M A (evalAll ((backToKw pos (keywordEach kws env)).map (·.2)))
   (fun ks s2=>wpAny M A (call (.type T) vs (((backToKw pos (keywordEach kws env)).filterMap (·.1)).zip ks)) Q E s2) E s1) E s)
  (he:backTo pos (starEach (e::rest) env)=(false,eval e env)::backTo pos (starEach rest env)) (hp:(backTo pos (starEach (e::rest) env)).any (·.1)=false)
  (ha:(backToKw pos (keywordEach kws env)).all (·.1.isSome)=true) (hk:(backToKw pos (keywordEach kws env)).any (·.1.isNone)=false) :
  wpAny M A (callWith pos (.type T) [] (backTo pos (starEach (e::rest) env)) (backToKw pos (keywordEach kws env))) Q E s:=by
 have h2:wpAny M A (evalArgs (.type T) true (backTo pos (starEach (e::rest) env)) (backToKw pos (keywordEach kws env))) (fun a s1=>wpAny M A (call (.type T) ([]++a.pos) a.kw) Q E s1) E s:=by
  rw [he] at h ⊢;exact evalArgs_kwB ha h
 unfold callWith;refine wpAny_bind (wpAny_holding (wpAny_mono h2 (fun a s1 h1=>wpAny_bind (wpAny_standAt ?_)) fun _ _ z=>z));simp only [hp,hk,Bool.or_false];exact wpAny_bind (wpAny_pure (wpAny_bind (wpAny_mono h1 (fun r s2 hr=>wpAny_bind (wpAny_holding (wpAny_point (wpAny_pure hr)))) fun _ _ z=>z)))
end
def Ite (K:PySem.W.Frag) (a:Addr) (c:Int):It :=
 ⟨fun i H=>∃ xs x,SqL K H a xs∧xs[i]? = some x,
  fun i H v H'=>∃ T,H T=none∧v=.ref T∧∀ xs,SqL K H a xs→∃ x,xs[i]? = some x∧H'=upd H T (.tup [.int (c+i),x]),
  fun i H=>∃ xs,SqL K H a xs∧xs.length≤i⟩
theorem zgA {P:Program} {w:World} {K:PySem.W.Frag} {elts:List Expr} {x1:Nat} {tpos:Pos} {l z I:Addr} {c:Int} (hzI:z≠I) (hlz:l≠z) (hlI:l≠I) :
  Turn P w K (.Tuple elts x1 tpos) (Ite K l c) [z,I] z (fun i h=>(∃ old,IsEnum h z I (c+i) old)∧h.IsListIter I l i) where
 mem:=by simp
 obj:=fun i h st b hb=>by
  obtain ⟨⟨old,h1⟩,o2,h2,c2,d2⟩:=st;simp only [mem_cons,not_mem_nil,or_false] at hb;rcases hb with rfl | rfl
  ·exact ⟨_,h1,fun v y=>by cases y⟩
  ·exact ⟨_,h2,fun v y=>by rw [d2] at y;cases y⟩
 keep:=fun i h h' st k=>by
  obtain ⟨⟨old,h1⟩,h2⟩:=st;exact ⟨⟨old,k z (by simp) _ h1⟩,h2.at fun o e=>k I (by simp) o e⟩
 item:=by
  intro X hP hw hK hc i pins s σ H E Iv hf st hg;subst hP hw hK;obtain ⟨xs,x,hq,hx⟩:=hg;obtain ⟨its,rv,p1,_⟩:=Iv.list hq;obtain ⟨u,hu,ru⟩:=rv.get hx;obtain ⟨⟨old,g1⟩,g2⟩:=st;have hI:I < s.heap.objs.size:=by obtain ⟨_,y,_⟩:=g2;exact Heap.lt_size y
  have hz:z < s.heap.objs.size:=Heap.lt_size g1;refine ziI g1 g2 p1.isList (x:=u) (by simpa using hu) hzI fun k a1 a2 a3 a4=>⟨_,rfl,?_⟩
  refine wpAny_letOwnedTupleGo_enum a1 fun k2 b1 b2=>?_;replace b2:Heap.SameBut z k k2:=b2;have hTn:H s.heap.objs.size=none:=Iv.hok.fresh (Nat.le_refl _);have keep:∀ b ob,b∉[z,I]→s.heap.get? b=some ob→k2.get? b=some ob:=fun b ob hb e=>by
   simp only [mem_cons,not_mem_nil,or_false,not_or] at hb;exact b2.extBut b ob hb.1 (a4 b ob hb.1 hb.2 e)
  have ei:c+(i:Int)+1=c+((i+1:Nat):Int):=by rw [Int.natCast_add];omega
  have c2:k2.IsListIter I l (i+1):=a2.extBut b2.extBut hzI.symm;refine ⟨.ref s.heap.objs.size,upd H s.heap.objs.size (.tup [.int (c+i),x]),?_,rfl,⟨_,hTn,rfl,fun xs' q'=>?_⟩,⟨⟨_,by rw [← ei];exact b1⟩,c2⟩,fun b hb=>?_⟩
  ·refine Iv.turnedNew (t':=s.toks+1) (ch:=[z,I]) keep (fun b hb=>⟨hf b hb,?_⟩) (Nat.le_refl _) ?_
   ·simp only [mem_cons,not_mem_nil,or_false] at hb;rcases hb with rfl | rfl
    ·exact ⟨_,b1⟩
    ·obtain ⟨o,e,_⟩:=c2;exact ⟨_,e⟩
   ·exact ⟨by show 2≤sizeLine;rw [sizeLine_eq];decide,[.int (c+i) s.toks,u],.cons ⟨_,rfl⟩ (.cons ru .nil),_,b2.extBut _ _ (Nat.ne_of_gt hz) a3,rfl,_,rfl⟩
  ·rw [Iv.list_inj q' hq];exact ⟨x,hx,rfl⟩
  ·have:b≠s.heap.objs.size:=by
    simp only [mem_cons,not_mem_nil,or_false] at hb;rcases hb with rfl | rfl
    ·exact Nat.ne_of_lt hz
    ·exact Nat.ne_of_lt hI
   rw [zaR this];exact (hf b hb).1
 done:=by
  intro X hP hw hK hc i pins s σ H E Iv hf st hg;subst hP hw hK;obtain ⟨xs,hq,hx⟩:=hg;obtain ⟨its,rv,p1,_⟩:=Iv.list hq;obtain ⟨⟨old,g1⟩,g2⟩:=st;have hl1:=rv.length;refine zjY (Iv.ok.hd hc) g1 g2 p1.isList (Array.getElem?_eq_none (by simp;omega)) fun k hk=>⟨rfl,Iv.turnedL (t':=s.toks) (ch:=[z,I]) (fun b ob hb e=>?_) hf⟩
  simp only [mem_cons,not_mem_nil,or_false,not_or] at hb;exact hk b ob hb.2 e
 self:=fun _ _ _ _ _ ⟨⟨_,st⟩,_⟩ h=>wpAny_pyIter_enum st h
section
variable {X:Cx} {K:PySem.W.Frag}
def zk1 (K:PySem.W.Frag) (c:Int) (ta:TA):TI:=fun σ H R=>ta σ H fun vs H1=>∃ a xs,vs=[.ref a]∧SqL K H1 a xs∧R (Ite K a c) H1
theorem zjZ {pins:List (Addr×Obj)} {σ:St} {H:Hp} {s:Shared} {h':Heap} (I:Inv X pins σ H s) (b:Addr) (hb:b∈[s.heap.objs.size+1,s.heap.objs.size]):FpOk X pins H b:=by
 have hge:s.heap.objs.size≤b:=by
  simp only [mem_cons,not_mem_nil,or_false] at hb;rcases hb with rfl | rfl
  ·exact le_succ _
  ·exact Nat.le_refl _
 exact I.fpOk hge (I.hok.fresh hge)
theorem zk2 {a:Expr} {ta:TA} {p pos tpos:Pos} {elts:List Expr} {x1:Nat} (hK:X.K=K) (hg:Gl X "enumerate") (hm:X.mg "enumerate"=none) (ha:PA X [a] ta) (hs:starEach [a] X.env=(false,eval a X.env)::starEach [] X.env:=by rfl)
  (hs2:(backTo pos (starEach [] X.env)).any (·.1)=false:=by rfl):PI X (.Tuple elts x1 tpos) (.Call (.Name "enumerate" p) [a] [] pos) (zk1 K 0 ta):=by
 subst hK;intro pins s σ H R I h;refine Call_ (zeE I hg hm boot_enumerate (PyProof.Rows.callWith_type1 (thn (ha pos pins s σ H _ I h) fun us s1 ⟨vs,H1,I1,r1,q1⟩=>?_) hs hs2));obtain ⟨l,xs,e,q1,q⟩:=q1;subst e;obtain ⟨v1,rfl,ru⟩:=r1.one
 cases ru
 obtain ⟨its,rv,p1,_⟩:=I1.list q1;obtain ⟨o1,e1,_⟩:=p1.isList;have L1:=Heap.lt_size e1;refine call_enumerate_list p1.isList fun k a1 a2 _ a4=>?_;refine wpAny_pyIter_enum a1 ?_;have I2:Inv X pins σ H1 { s1 with heap:=k }:=I1.kept (t':=s1.toks) a4;exact ⟨s1.heap.objs.size+1,_,_,Ite X.K l 0,H1,rfl,I2,zgA (Nat.succ_ne_self _) (Nat.ne_of_lt (lt_succ_of_lt L1)) (Nat.ne_of_lt L1),⟨⟨_,a1⟩,a2⟩,zjZ (h':=k) I1,q⟩
theorem zk3 {a:Expr} {ta:TA} {p pos tpos kpos cpos:Pos} {ci:Nat} {elts:List Expr} {x1:Nat} (hK:X.K=K) (hg:Gl X "enumerate") (hm:X.mg "enumerate"=none) (ha:PA X [a] ta)
  (hb:bootBuiltins "enumerate"=some (.type "enumerate"):=by rfl)
  (he:backTo pos (starEach [a] X.env)=(false,eval a X.env)::backTo pos (starEach [] X.env):=by rfl) (hpl:(backTo pos (starEach [a] X.env)).any (·.1)=false:=by rfl) :
  PI X (.Tuple elts x1 tpos) (.Call (.Name "enumerate" p) [a] [⟨some "start",.Constant (.int 1) ci cpos,kpos⟩] pos) (zk1 K 1 ta):=by
 subst hK;intro pins s σ H R I h;refine wpAny_Call_Name_kw (zeE I hg hm hb ?_ (by decide) (by decide));refine zfW (thn (ha pos pins s σ H _ I h) fun us s1 ⟨vs,H1,I1,r1,q1⟩=>thn ((zlT zad pk_nil) pos pins s1 σ H1 (fun zs H2=>zs=[.int 1]∧H2=H1) I1 ⟨rfl,rfl⟩) fun ws s2 ⟨zs,H2,I2,r2,q2⟩=>?_) he hpl rfl rfl;obtain ⟨rfl,rfl⟩:=q2;obtain ⟨l,xs,e,q1,q⟩:=q1;subst e;obtain ⟨v1,rfl,ru⟩:=r1.one
 cases ru
 obtain ⟨v2,rfl,tt,rfl⟩:=r2.one;obtain ⟨its,rv,p1,_⟩:=I2.list q1;obtain ⟨o1,e1,_⟩:=p1.isList;have L1:=Heap.lt_size e1;refine ziG p1.isList fun k a1 a2 a4=>?_;refine wpAny_pyIter_enum a1 ?_;have I3:Inv X pins σ H2 { s2 with heap:=k }:=I2.kept (t':=s2.toks) a4;exact ⟨s2.heap.objs.size+1,_,_,Ite X.K l 1,H2,rfl,I3,zgA (Nat.succ_ne_self _) (Nat.ne_of_lt (lt_succ_of_lt L1)) (Nat.ne_of_lt L1),⟨⟨_,a1⟩,a2⟩,zjZ (h':=k) I2,q⟩
end
section
variable {σ:St} {H:Hp} {D:Ends} {nx bk ct:St→Hp→Prop} {rt:VK} {K:PySem.W.Frag} {Q:VK} {js:List Nat} {te:TE} {tc:TT} {c:Int} {a b:Addr} {xs ys:List V}
theorem znt {tl:TA} {g:TG} {tb:TS} (h:tl σ H fun vs H1=>∃ a xs,vs=[.ref a]∧SqL K H1 a xs∧ForI (Ite K a c) g tb D σ H1):tFor (zk1 K c tl) g tb D σ H:=h
theorem zmh {tl:TA} {k:Nat} {g:TG} (h:tl σ H fun vs H1=>∃ a xs,vs=[.ref a]∧SqL K H1 a xs∧zhi (Ite K a c) k js g tc te σ H1 Q):zhc (zk1 K c tl) k js g tc te σ H Q:=h
theorem zmi {tl:TA} {k:Nat} {g:TG} (h:tl σ H fun vs H1=>∃ a b xs ys,vs=[.ref a,.ref b]∧SqL K H1 a xs∧SqL K H1 b ys∧zhi (Itz K a b) k js g tc te σ H1 Q):zhc (iZip K tl) k js g tc te σ H Q:=h
theorem zh1 {P:Addr→Prop} (h:SqL K H a xs) (q:P a):∃ b xs,[V.ref a]=[.ref b]∧SqL K H b xs∧P b:=⟨a,xs,rfl,h,q⟩
theorem zmj {i j:Nat} {tb:TS} (Pv:Nat→St→Hp→Prop) (h0:Pv 0 σ H) (hl:∀ i σ H,i≤xs.length→Pv i σ H→SqL K H a xs)
  (hs:∀ k x σ H H' ,xs[k]? = some x→Pv k σ H→Same H H'→tb ⟨Pv (k+1),rt,nx,Pv (k+1)⟩ ((σ.set i (some (.int (c+k)))).set j (some x)) H') (hd:∀ σ H,Pv xs.length σ H→nx σ H) :
  ForI (Ite K a c) (gTup K 2 (zg9 (zcS i) (zg9 (zcS j) gNil))) tb ⟨nx,rt,bk,ct⟩ σ H:=by
 refine ⟨fun i m σ H=>m=xs.length-i∧i≤xs.length∧Pv i σ H,⟨xs.length,by simp,zero_le _,h0⟩,?_⟩;rintro k m σ H ⟨rfl,hi,p⟩;have q1:=hl k σ H hi p
 by_cases hlt:k < xs.length
 ·refine .inr ⟨⟨xs,xs[k],q1,by simp [hlt]⟩,Pv (k+1),fun σ' H' p'=>⟨xs.length-(k+1),by omega,rfl,hlt,p'⟩,fun v H' yy=>?_⟩;obtain ⟨T,hT,rfl,yy⟩:=yy;obtain ⟨x,hx,rfl⟩:=yy xs q1;exact ⟨T,[.int (c+k),x],rfl,SqT.of zaz,rfl,.int (c+k),[x],rfl,x,[],rfl,rfl,hs k x σ H _ hx p (zaY hT)⟩
 ·have e:k=xs.length:=by omega
  subst e;exact .inl ⟨⟨xs,q1,Nat.le_refl _⟩,hd σ H p⟩
theorem zcr.enum (h:SqL K H a xs):zcr (Ite K a c) xs.length 2 js σ (gTup K 2 (zg9 (zcS 0) (zg9 (zcS 1) gNil))) (fun i=>[some (.int (c+i)),some (xs.getD i .non)]) H where
 len:=fun _=>rfl
 go:=fun i H' s hi=>⟨xs,xs[i],s.seq h,by simp [hi]⟩
 stop:=fun H' s=>⟨xs,s.seq h,Nat.le_refl _⟩
 yld:=fun i H' v H2 u N s hi hu hy q=>by
  obtain ⟨T,hT,rfl,yy⟩:=hy;obtain ⟨x,hx,rfl⟩:=yy xs (s.seq h);have ex:xs.getD i .non=x:=by rw [getD_eq_getElem?_getD,hx];rfl
  match u,hu with
  | [u1,u2],_ =>
    refine ⟨T,[.int (c+i),x],rfl,SqT.of zaz,rfl,.int (c+i),[x],rfl,x,[],rfl,rfl,?_⟩;have:=q _ (zaY (o:=.tup [.int (c+i),x]) hT);rw [ex] at this;exact this
theorem zcr.zip (h:SqL K H a xs) (h2:SqL K H b ys) (hl:xs.length=ys.length):zcr (Itz K a b) xs.length 2 js σ (gTup K 2 (zg9 (zcS 0) (zg9 (zcS 1) gNil))) (fun i=>[some (xs.getD i .non),some (ys.getD i .non)]) H where
 len:=fun _=>rfl
 go:=fun i H' s hi=>⟨xs,ys,xs[i],ys[i],s.seq h,s.seq h2,by simp [hi],by simp [hl▸hi]⟩
 stop:=fun H' s=>⟨xs,ys,s.seq h,s.seq h2,.inl (Nat.le_refl _)⟩
 yld:=fun i H' v H2 u N s hi hu hy q=>by
  obtain ⟨T,hT,rfl,yy⟩:=hy;obtain ⟨x,y,hx,hy,rfl⟩:=yy xs ys (s.seq h) (s.seq h2);have ex:xs.getD i .non=x:=by rw [getD_eq_getElem?_getD,hx];rfl
  have ey:ys.getD i .non=y:=by rw [getD_eq_getElem?_getD,hy];rfl
  match u,hu with
  | [u1,u2],_ =>
    refine ⟨T,[x,y],rfl,SqT.of zaz,rfl,x,[y],rfl,y,[],rfl,rfl,?_⟩;have:=q _ (zaY (o:=.tup [x,y]) hT);rw [ex,ey] at this;exact this
end
end L2
namespace Prf
open PySem PySem.Spec PyProof.Rows L2
def b1 (b:Bool):Nat:=if b then 1 else 0
theorem cnt_cons (r:List Int) (rows:LI) (x:Int):cntB (r::rows) x=b1 (decide (x∈r))+cntB rows x:=by
 unfold cntB b1;rw [filter_cons]
 cases decide (x∈r) <;> simp <;> omega
theorem zhl (x:Int) (row:List Int):∀ (gv:LI) (p:Nat),p < gv.length→cntB (gv.set p row) x+b1 (decide (x∈gv.getD p []))=cntB gv x+b1 (decide (x∈row))
 | g::gv,0,_=>by
   rw [List.set_cons_zero,cnt_cons,cnt_cons];show _+b1 (decide (x∈g))=_;omega
 | g::gv,p+1,h=>by
   rw [List.set_cons_succ,cnt_cons,cnt_cons];have:=zhl x row gv p (by simpa using h);show _+b1 (decide (x∈gv.getD p []))=_;omega
theorem zbo {α:Type} {xs:List α} {d v:α} {i j:Nat} (h:i < xs.length):(xs.set i v).getD j d=if j=i then v else xs.getD j d:=by
 rw [getD_eq_getElem?_getD,List.getElem?_set,getD_eq_getElem?_getD]
 by_cases e:j=i
 ·subst e;simp [h]
 ·simp [e,Ne.symm e]
structure Vld (al gv:LI) (lim sp:List Int) (o:Int):Prop where
 lg:gv.length=al.length
 ls:sp.length=lim.length
 nd:∀ q,q < gv.length→(gv.getD q []).Nodup
 sub:∀ q,q < gv.length→∀ r∈gv.getD q [],r∈al.getD q []
 ar:∀ q,q < al.length→∀ r∈al.getD q [],1≤r∧r≤lim.length
 s0:∀ r:Nat,r < lim.length→0≤sp.getD r 0
 eq:∀ r:Nat,r < lim.length→sp.getD r 0+(cntB gv ((r:Int)+1):Int)+(if (r:Int)+1=o then 1 else 0)=lim.getD r 0
theorem Vld.take {al gv:LI} {lim sp:List Int} {r:Int} (V:Vld al gv lim sp 0) (r1:1≤r) (r2:r≤lim.length) (h:0 < sp.getD (r-1).toNat 0):Vld al gv lim (sp.set (r-1).toNat (sp.getD (r-1).toNat 0-1)) r:=by
 have hi:(r-1).toNat < sp.length:=by have:=V.ls;omega
 refine ⟨V.lg,by rw [length_set];exact V.ls,V.nd,V.sub,V.ar,fun k hk=>?_,fun k hk=>?_⟩
 ·rw [zbo hi];split
  ·omega
  ·exact V.s0 k hk
 ·have e:=V.eq k hk;rw [if_neg (by omega)] at e;rw [zbo hi]
  by_cases ek:k=(r-1).toNat
  ·rw [if_pos ek,if_pos (by omega)];subst ek;omega
  ·rw [if_neg ek,if_neg (by omega)];exact e
theorem Vld.push {al gv:LI} {lim sp:List Int} {r:Int} {p:Nat} (V:Vld al gv lim sp r) (hp:p < gv.length) (hr:r∈al.getD p []) (hn:r∉gv.getD p []):Vld al (gv.set p (gv.getD p []++[r])) lim sp 0:=by
 refine ⟨by rw [length_set];exact V.lg,V.ls,fun q hq=>?_,fun q hq=>?_,V.ar,V.s0,fun k hk=>?_⟩
 ·rw [length_set] at hq;rw [zbo hp];split
  ·refine nodup_append.mpr ⟨V.nd p hp,by simp,fun a ha b hb=>?_⟩;have:b=r:=by simpa using hb
   subst this;intro e;subst e;exact hn ha
  ·exact V.nd q hq
 ·rw [length_set] at hq;rw [zbo hp];split
  ·rename_i e
   subst e;intro x hx;rcases mem_append.mp hx with h | h
   ·exact V.sub q hp x h
   ·have:x=r:=by simpa using h
    subst this;exact hr
  ·exact V.sub q hq
 ·have e:=V.eq k hk;have c:=zhl ((k:Int)+1) (gv.getD p []++[r]) gv p hp;have l:=V.lg;have hrr:=V.ar p (by omega) r hr;rw [if_neg (show ¬(k:Int)+1=0 by omega)]
  by_cases ek:(k:Int)+1=r
  ·rw [if_pos ek] at e;rw [ek] at c e ⊢;have d1:decide (r∈gv.getD p [])=false:=decide_eq_false hn;have d2:decide (r∈gv.getD p []++[r])=true:=decide_eq_true (by simp);rw [d1,d2] at c;have c2:cntB (gv.set p (gv.getD p []++[r])) r+0=cntB gv r+1:=c;omega
  ·rw [if_neg ek] at e;have d:decide ((k:Int)+1∈gv.getD p []++[r])=decide ((k:Int)+1∈gv.getD p []):=by
    rw [decide_eq_decide];simp [ek]
   rw [d] at c;omega
theorem Vld.drop {al gv:LI} {lim sp:List Int} {r:Int} {p:Nat} (V:Vld al gv lim sp 0) (hp:p < gv.length) (hr:r∈gv.getD p []):Vld al (gv.set p ((gv.getD p []).erase r)) lim sp r:=by
 have ndp:=V.nd p hp;refine ⟨by rw [length_set];exact V.lg,V.ls,fun q hq=>?_,fun q hq=>?_,V.ar,V.s0,fun k hk=>?_⟩
 ·rw [length_set] at hq;rw [zbo hp];split
  ·exact ndp.erase r
  ·exact V.nd q hq
 ·rw [length_set] at hq;rw [zbo hp];split
  ·rename_i e
   subst e;intro x hx;exact V.sub q hp x (List.mem_of_mem_erase hx)
  ·exact V.sub q hq
 ·have e:=V.eq k hk;have c:=zhl ((k:Int)+1) ((gv.getD p []).erase r) gv p hp;rw [if_neg (show ¬(k:Int)+1=0 by omega)] at e
  by_cases ek:(k:Int)+1=r
  ·rw [if_pos ek];rw [ek] at c e ⊢;have d1:decide (r∈gv.getD p [])=true:=decide_eq_true hr;have d2:decide (r∈(gv.getD p []).erase r)=false:=decide_eq_false (by rw [ndp.mem_erase_iff];simp);rw [d1,d2] at c;have c2:cntB (gv.set p ((gv.getD p []).erase r)) r+1=cntB gv r+0:=c;omega
  ·rw [if_neg ek];have d:decide ((k:Int)+1∈(gv.getD p []).erase r)=decide ((k:Int)+1∈gv.getD p []):=by
    rw [decide_eq_decide,ndp.mem_erase_iff];simp [ek]
   rw [d] at c;omega
def Cov (al gv:LI) (ks:List Int) (q:Nat):Prop:=∀ r∈al.getD q [],r∈ks∨r∈gv.getD q []
theorem Cov.mono {al gv:LI} {ks ls:List Int} {q:Nat} (h:Cov al gv ks q) (s:∀ r∈ks,r∈ls):Cov al gv ls q:=fun r hr=>(h r hr).elim (fun z=>.inl (s r z)) .inr
def Cls2 (al gv:LI) (sp ks ls:List Int):Prop:=(∀ r∈ks,r∈ls)∧∀ r∈ls,r∉ks→sp.getD (r-1).toNat 0=0∧∀ q,q < gv.length→r∈gv.getD q []→Cov al gv ls q
theorem Cls2.refl {al gv:LI} {sp ks:List Int}:Cls2 al gv sp ks ks:=⟨fun _ h=>h,fun r h n=>absurd h n⟩
theorem Cls2.trans {al gv:LI} {sp ks ls ms:List Int} (a:Cls2 al gv sp ks ls) (b:Cls2 al gv sp ls ms):Cls2 al gv sp ks ms:=by
 refine ⟨fun r h=>b.1 r (a.1 r h),fun r h n=>?_⟩
 by_cases hl:r∈ls
 ·obtain ⟨h1,h2⟩:=a.2 r hl n;exact ⟨h1,fun q hq hr=>(h2 q hq hr).mono b.1⟩
 ·exact b.2 r h hl
theorem Cls2.one {al gv:LI} {sp ks ls:List Int} {x:Int} (b:Cls2 al gv sp (ks++[x]) ls) (h0:sp.getD (x-1).toNat 0=0) (h1:∀ q,q < gv.length→x∈gv.getD q []→Cov al gv ls q):Cls2 al gv sp ks ls:=by
 refine ⟨fun r h=>b.1 r (by simp [h]),fun r h n=>?_⟩
 by_cases e:r=x
 ·subst e;exact ⟨h0,h1⟩
 ·exact b.2 r h (by simp [n,e])
structure Fnd (al gv gv':LI) (lim sp' ks:List Int) (p:Nat):Prop where
 v:Vld al gv' lim sp' 0
 lg:gv'.length=gv.length
 len:∀ q,q < gv.length→(gv'.getD q []).length=(gv.getD q []).length+if q=p then 1 else 0
 old:∀ r∈ks,∀ q,q < gv.length→(r∈gv'.getD q []↔r∈gv.getD q [])
structure Fre (al gv gv':LI) (lim sp' ks:List Int) (x:Int):Prop where
 v:Vld al gv' lim sp' x
 lg:gv'.length=gv.length
 len:∀ q,q < gv.length→(gv'.getD q []).length=(gv.getD q []).length
 old:∀ r∈ks,r≠x→∀ q,q < gv.length→(r∈gv'.getD q []↔r∈gv.getD q [])
 own:∀ q,q < gv.length→x∈gv'.getD q []→x∈gv.getD q []
theorem Fre.found {al gv gv':LI} {lim sp' ks:List Int} {x:Int} {p:Nat} (F:Fre al gv gv' lim sp' (ks++[x]) x) (hp:p < gv.length) (hx:x∈al.getD p []) (hn:x∉gv.getD p []) (hk:x∉ks) :
  Fnd al gv (gv'.set p (gv'.getD p []++[x])) lim sp' ks p:=by
 have l:=F.lg;have hp':p < gv'.length:=by omega
 refine ⟨F.v.push hp' hx (fun z=>hn (F.own p hp z)),by rw [length_set];exact l,fun q hq=>?_,fun r hr q hq=>?_⟩
 ·have:=F.len q hq;rw [zbo hp']
  by_cases e:q=p
  ·subst e;rw [if_pos rfl,if_pos rfl,length_append,length_singleton];omega
  ·rw [if_neg e,if_neg e];omega
 ·have hne:r≠x:=fun e=>hk (e▸hr);have:=F.old r (by simp [hr]) hne q hq;rw [zbo hp']
  by_cases e:q=p
  ·subst e;rw [if_pos rfl,mem_append,this];simp [hne]
  ·rw [if_neg e];exact this
theorem Fnd.freed {al gv gv':LI} {lim sp' ks:List Int} {x:Int} {p:Nat} (F:Fnd al gv gv' lim sp' ks p) (hp:p < gv.length) (hx:x∈gv.getD p []) (hk:x∈ks) :
  x∈gv'.getD p []∧Fre al gv (gv'.set p ((gv'.getD p []).erase x)) lim sp' ks x:=by
 have l:=F.lg;have hp':p < gv'.length:=by omega
 have hx':x∈gv'.getD p []:=(F.old x hk p hp).mpr hx;have ndp:=F.v.nd p hp';refine ⟨hx',F.v.drop hp' hx',by rw [length_set];exact l,fun q hq=>?_,fun r hr hne q hq=>?_,fun q hq hq2=>?_⟩
 ·have:=F.len q hq;rw [zbo hp']
  by_cases e:q=p
  ·subst e;rw [if_pos rfl,List.length_erase_of_mem hx'];rw [if_pos rfl] at this;omega
  ·rw [if_neg e];rw [if_neg e] at this;omega
 ·have:=F.old r hr q hq;rw [zbo hp']
  by_cases e:q=p
  ·subst e;rw [if_pos rfl,ndp.mem_erase_iff,this];simp [hne]
  ·rw [if_neg e];exact this
 ·rw [zbo hp'] at hq2
  by_cases e:q=p
  ·subst e;exact hx
  ·rw [if_neg e] at hq2;exact (F.old x hk q hq).mp hq2
theorem Vld.taken {al gv:LI} {lim sp ks:List Int} {r:Int} (V:Vld al gv lim sp 0) (r1:1≤r) (r2:r≤lim.length) (h:0 < sp.getD (r-1).toNat 0):Fre al gv gv lim (sp.set (r-1).toNat (sp.getD (r-1).toNat 0-1)) ks r :=
 ⟨V.take r1 r2 h,rfl,fun _ _=>rfl,fun _ _ _ _ _=>Iff.rfl,fun _ _ h=>h⟩
theorem znu {n:Nat} {f:Nat→Bool}:Hall.sm n (fun p=>Hall.b2 (f p))=((List.range n).filter f).length:=zc0 f n
theorem zj0 {row:List Int} {m:Nat} (nd:row.Nodup) (h:∀ r∈row,1≤r∧r≤m):Hall.sm m (fun r=>Hall.b2 (decide ((r:Int)+1∈row)))=row.length:=by
 rw [znu];have e:(((List.range m).filter fun r:Nat=>decide ((r:Int)+1∈row)).map fun r:Nat=>(r:Int)+1).Perm row:=by
  refine (List.perm_ext_iff_of_nodup ?_ nd).mpr fun x=>?_
  ·unfold List.Nodup;rw [pairwise_map];exact (List.nodup_range.filter _).imp fun h e=>h (by omega)
  ·constructor
   ·intro hx;obtain ⟨r,hr,rfl⟩:=mem_map.mp hx;simpa using (mem_filter.mp hr).2
   ·intro hx;have:=h x hx;refine mem_map.mpr ⟨(x-1).toNat,mem_filter.mpr ⟨mem_range.mpr (by omega),?_⟩,by omega⟩;have e:(((x-1).toNat:Nat):Int)+1=x:=by omega
    rw [e];simpa using hx
 have:=e.length_eq;rw [length_map] at this;exact this
theorem zk4 {hs:List Int} {rs al gv:LI} {lim sp:List Int} (h0:∀ i,i < rs.length→0≤(rs.getD i []).getD 1 0) (V:Vld al gv lim sp 0) (hn:al.length=hs.length) (hm:lim.length=rs.length) (hl:∀ r,r < rs.length→lim.getD r 0=(rs.getD r []).getD 1 0)
  (hA:∀ q,q < hs.length→∀ r:Nat,r < rs.length→(r:Int)+1∈al.getD q []→zbq hs rs q r=true) (h2:∀ q,q < hs.length→(gv.getD q []).length=2):∃ rows,zaW hs rs rows=true:=by
 have lg:=V.lg;rw [zeQ h0,← zjT h0];refine Hall.room_of (B:=fun p r=>decide (p < hs.length) && decide (r < rs.length) && decide ((r:Int)+1∈gv.getD p [])) (fun p r h=>?_) (fun p hp=>?_) fun r hr=>?_
 ·simp only [Bool.and_eq_true,decide_eq_true_eq] at h;exact hA p h.1.1 r h.1.2 (V.sub p (by omega) _ h.2)
 ·rw [← h2 p hp,← zj0 (m:=rs.length) (V.nd p (by omega)) fun r hr=>by have:=V.ar p (by omega) r (V.sub p (by omega) r hr);omega];apply Hall.sm_congr;intro r hr;rw [decide_eq_true hp,decide_eq_true hr];rfl
 ·have e:=V.eq r (by omega);have s0:=V.s0 r (by omega);rw [if_neg (by omega),hl r hr,zfV] at e;have:Hall.sm hs.length (fun p=>Hall.b2 (decide (p < hs.length) && decide (r < rs.length) && decide ((r:Int)+1∈gv.getD p [])))=Hall.sm gv.length (fun p=>Hall.b2 (decide ((r:Int)+1∈gv.getD p []))):=by
   rw [show gv.length=hs.length by omega];apply Hall.sm_congr;intro p hp;rw [decide_eq_true hp,decide_eq_true hr];rfl
  rw [this];unfold limN;omega
theorem zj1 {hs:List Int} {rs al gv:LI} {lim sp ls:List Int} {p:Nat} (h0:∀ i,i < rs.length→0≤(rs.getD i []).getD 1 0) (V:Vld al gv lim sp 0) (hn:al.length=hs.length) (hm:lim.length=rs.length) (hl:∀ r,r < rs.length→lim.getD r 0=(rs.getD r []).getD 1 0)
  (hA:∀ q,q < hs.length→∀ r:Nat,r < rs.length→zbq hs rs q r=true→(r:Int)+1∈al.getD q []) (h2:∀ q,q < hs.length→(gv.getD q []).length≤2) (hp:p < hs.length) (hp2:(gv.getD p []).length < 2)
  (C:Cls2 al gv sp [] ls) (hc:Cov al gv ls p):∀ rows,zaW hs rs rows=false:=by
 have lg:=V.lg;have key:¬Hall.Ok hs.length rs.length (limN rs) (fun _=>2) (zbq hs rs):=by
  intro ok
  let S:Nat→Bool:=fun q=>decide (q=p) || (gv.getD q []).any fun r=>decide (r∈ls)
  have hS:∀ q,q < hs.length→S q=true→Cov al gv ls q:=fun q hq z=>by
   simp only [S,Bool.or_eq_true,decide_eq_true_eq,any_eq_true] at z;rcases z with z | ⟨r,h1,h2⟩
   ·subst z;exact hc
   ·exact (C.2 r h2 (by simp)).2 q (by omega) h1
  have le:=ok S;have rm:Hall.room hs.length rs.length (limN rs) (zbq hs rs) S≤Hall.sm rs.length (fun r=>Hall.sm hs.length fun q=>Hall.b2 (S q && decide ((r:Int)+1∈gv.getD q []))):=by
   unfold Hall.room;refine Hall.sm_le fun r hr=>?_
   by_cases hk:(r:Int)+1∈ls
   ·refine Nat.le_trans (Nat.min_le_left _ _) ?_;have z:=(C.2 _ hk (by simp)).1;have er:((r:Int)+1-1).toNat=r:=by omega
    rw [er] at z;have e:=V.eq r (by omega);rw [if_neg (by omega),hl r hr,zfV,z] at e;have:Hall.sm hs.length (fun q=>Hall.b2 (S q && decide ((r:Int)+1∈gv.getD q [])))=Hall.sm gv.length (fun q=>Hall.b2 (decide ((r:Int)+1∈gv.getD q []))):=by
     rw [show gv.length=hs.length by omega];apply Hall.sm_congr;intro q hq
     by_cases h:(r:Int)+1∈gv.getD q []
     ·have:S q=true:=by
       simp only [S,Bool.or_eq_true,any_eq_true];exact .inr ⟨_,h,decide_eq_true hk⟩
      rw [this];rfl
     ·rw [decide_eq_false h,Bool.and_false]
    rw [this];unfold limN;omega
   ·refine Nat.le_trans (Nat.min_le_right _ _) ?_;unfold Hall.deg;refine Hall.sm_le fun q hq=>?_
    cases hs1:S q with
    | false=>simp [Hall.b2]
    | true =>
      cases ha:zbq hs rs q r with
      | false=>simp [Hall.b2]
      | true =>
        have:=(hS q hq hs1 _ (hA q hq r hr ha)).resolve_left hk;rw [decide_eq_true this];exact Nat.le_refl _
  rw [Hall.sm_swap] at rm;have lt:Hall.sm hs.length (fun q=>Hall.sm rs.length fun r=>Hall.b2 (S q && decide ((r:Int)+1∈gv.getD q []))) < Hall.need hs.length (fun _=>2) S:=by
   unfold Hall.need;have each:∀ q,q < hs.length→Hall.sm rs.length (fun r=>Hall.b2 (S q && decide ((r:Int)+1∈gv.getD q [])))=if S q=true then (gv.getD q []).length else 0:=fun q hq=>by
    cases hs1:S q with
    | false =>
      rw [if_neg Bool.false_ne_true];have:Hall.sm rs.length (fun r=>Hall.b2 (false && decide ((r:Int)+1∈gv.getD q [])))=Hall.sm rs.length (fun _=>0):=Hall.sm_congr fun i _=>rfl;rw [this,Hall.sm_zero]
    | true =>
      rw [if_pos rfl];have:Hall.sm rs.length (fun r=>Hall.b2 (true && decide ((r:Int)+1∈gv.getD q [])))=Hall.sm rs.length (fun r=>Hall.b2 (decide ((r:Int)+1∈gv.getD q []))):=Hall.sm_congr fun i _=>rfl;rw [this];exact zj0 (V.nd q (by omega)) fun r hr=>by have:=V.ar q (by omega) r (V.sub q (by omega) r hr);omega
   refine Hall.sm_lt (p:=p) hp (fun q hq=>?_) ?_
   ·rw [each q hq];have:=h2 q hq;split <;> omega
   ·have hsp:S p=true:=by simp [S]
    rw [each p hp,if_pos hsp,if_pos hsp];exact hp2
  omega
 intro rows;rw [Bool.eq_false_iff];intro z;exact key ((zjT h0).mpr ((zeQ h0).mp ⟨rows,z⟩))
end Prf
namespace L2
open PySem PySem.Spec PyProof.Rows
section
variable {X:Cx} {K:PySem.W.Frag} {o e value:Expr} {f:Str} {pos pos' tpos:Pos} {ta tv:TE}
theorem zaG (hK:X.K=K) (he:PE X e ta) (hb:attributeBase e f X.env (eval e X.env)=eval e X.env:=by rfl):PE X (.Attribute e f pos) (tFld K ta f):=hK▸zmR he hb
theorem zbQ (hK:X.K=K) (ha:PE X o ta) (hv:PE X value tv) (hs:swapsWith value (some (.Attribute o f pos')) pos.line X.env=pure false:=by rfl):PS X (.Assign [.Attribute o f pos'] value pos) (sFld K ta tv f):=hK▸zmS ha hv hs
def znv (K:PySem.W.Frag):V→V→Hp→VK→Prop:=fun x y H Q=>∃ (p:Addr) (ns:List Int) (i:Int),x=.ref p∧y=.int i∧SqL K H p (ns.map V.int)∧0≤i∧i < ns.length∧Q (.int (ns.getD i.toNat 0)) H
theorem zj2 (hK:X.K=K):PGet X (znv K):=by
 subst hK;intro pins s σ H x y v u Q I rx ry h;obtain ⟨p,ns,i,rfl,rfl,hq,h0,h1,q⟩:=h
 cases rx
 obtain ⟨t,rfl⟩:=ry;obtain ⟨its,r,pl,hz⟩:=I.list hq;have hi:i.toNat < ns.length:=by omega
 obtain ⟨w,ew,rw'⟩:=r.get (i:=i.toNat) (x:=.int (ns.getD i.toNat 0)) (by rw [getElem?_map,getElem?_eq_getElem hi,getD_eq_getElem?_getD,getElem?_eq_getElem hi];rfl);have hn:=line63;rw [length_map] at hz;exact getItem_listL pl.isList h0 (by omega) ew ⟨_,H,I,rw',q⟩
theorem zgB {α β:Type} (f:α→β):∀ (l:List α) (k:Nat),(l.map f).eraseIdx k=(l.eraseIdx k).map f
 | [],_=>rfl
 | _::_,0=>rfl
 | a::l,k+1=>congrArg (f a::·) (zgB f l k)
def rRemove:V→List V→Hp→VK→Prop:=fun x vs H Q=>∃ (l:Addr) (ns:List Int) (i:Int),x=.ref l∧vs=[.int i]∧H l=some (.lst (ns.map V.int))∧i∈ns∧Q .non (upd H l (.lst ((ns.erase i).map V.int)))
theorem erase_at:∀ {ns:List Int} {i:Int},i∈ns→∃ j,∃ hj:j < ns.length,ns[j]=i∧(∀ m (hm:m < ns.length),m < j→ns[m]≠i)∧ns.erase i=ns.eraseIdx j
 | n::ns,i,h=>by
   by_cases e:n=i
   ·subst e;exact ⟨0,by simp,rfl,fun m _ h=>absurd h (by omega),by simp⟩
   ·have h':i∈ns:=by
     rcases mem_cons.mp h with z | z
     ·exact absurd z.symm e
     ·exact z
    obtain ⟨j,hj,h1,h2,h3⟩:=erase_at h';refine ⟨j+1,by simp;exact hj,h1,fun m hm hlt=>?_,?_⟩
    ·cases m with
     | zero=>exact e
     | succ m=>exact h2 m (by simpa using hm) (by omega)
    ·rw [List.erase_cons_tail (by simpa using e),h3];rfl
theorem vals_int_at:∀ {ns:List Int} {its:List Value},Vals (ns.map V.int) its→∀ (m:Nat) (h1:m < ns.length) (h2:m < its.length),∃ t,its[m]=.int ns[m] t:=fun {ns its} r m h1 h2=>by
 obtain ⟨u,hu,t,rfl⟩:=r.get (i:=m) (x:=.int ns[m]) (by simp [h1]);rw [getElem?_eq_getElem h2] at hu;exact ⟨t,Option.some.inj hu⟩
theorem vals_erase:∀ {xs:List V} {us:List Value} (k:Nat),Vals xs us→Vals (xs.eraseIdx k) (us.eraseIdx k)
 | _,_,_,.nil=>.nil
 | _,_,0,.cons _ t=>t
 | _,_,k+1,.cons r t=>.cons r (vals_erase k t)
theorem mt_remove:MtM X "list.remove" rRemove:=by
 intro pins s σ H x vs v us Q I rx rv h;obtain ⟨l,ns,i,rfl,rfl,hH,hi,q⟩:=h
 cases rx
 obtain ⟨u,rfl,t,rfl⟩:=rv.one;obtain ⟨z,its,n,r,hl,e⟩:=I.lstM hH;rw [length_map] at hl z;obtain ⟨j,hj,e1,e2,e3⟩:=erase_at hi;have at_:∀ (m:Nat) (h:m < its.length),∃ t,its[m]=.int (ns[m]'(by omega)) t:=fun m h=>vals_int_at r m (by omega) h;refine call_meets F.slot_list_remove ⟨_,e,rfl⟩ F.entry_list_remove (F.args_list_remove_2 _ _)
  (MeetsSeq.list_remove l its.toArray n (.int i t) (fun y=>match y with | .int a _=>a == i | _=>false) (fun y hy=>?_) j (by simpa using (show j < its.length by omega)) ?_ (fun m hm hlt=>?_) (by rw [size_toArray];omega)) ⟨e,?_⟩
 ·obtain ⟨m,hm,rfl⟩:=getElem_of_mem (by simpa using hy:y∈its);obtain ⟨t',et⟩:=at_ m hm;rw [et];exact MeetsSeq.EqGives.int _ _ _ _
 ·obtain ⟨t',et⟩:=at_ j (by omega);rw [List.getElem_toArray,et];simpa using e1
 ·have hm':m < its.length:=by simpa using hm
  obtain ⟨t',et⟩:=at_ m hm';rw [List.getElem_toArray,et];simpa using e2 m (by omega) hlt
 ·refine ⟨.non,_,I.lset (its':=its.eraseIdx j) (ys:=(ns.erase i).map V.int) hH e ?_ ?_ ?_,rfl,q⟩
  ·show its.toArray.eraseIdxIfInBounds j=(its.eraseIdx j).toArray;rw [List.eraseIdxIfInBounds_toArray]
  ·rw [e3,← zgB];exact vals_erase j r
  ·rw [length_map];have:=List.length_erase_le (a:=i) (l:=ns);omega
end
section
variable {σ:St} {H:Hp} {Q:VK} {D:Ends} {K:PySem.W.Frag} {ta tv to ti te tb:TE} {f m:Str} {tl:TA} {C a p x:Addr} {nx bk ct:St→Hp→Prop} {rt:VK} {sp:Sp} {E:XK} {fs:List (Str×V)} {dx:Addr} {v:V} {i:Int} {xs:List V} {ns:List Int}
def zj3 (K:PySem.W.Frag) (f:Str) (x:V) (H1:Hp) (Q:VK):Prop:=∃ a C dx fs v,x=.ref a∧H1 a=some (.ins C dx fs)∧Cls K C∧zbJ K C f∧fs.lookup f=some v∧Q v H1
theorem zoq (h:ta σ H fun x H1=>zj3 K f x H1 Q):tFld K ta f σ H Q:=h
theorem zk5 (h:H a=some (.ins C dx fs)) (c:Cls K C) (n:zbJ K C f) (l:fs.lookup f=some v) (q:Q v H):zj3 K f (.ref a) H Q:=⟨a,C,dx,fs,v,rfl,h,c,n,l,q⟩
def zh2 (K:PySem.W.Frag) (f:Str) (y x:V) (H2:Hp) (N:Hp→Prop):Prop:=∃ a C dx fs,x=.ref a∧H2 a=some (.ins C dx fs)∧Cls K C∧zbJ K C f∧fs.length < 1000∧N (upd H2 a (.ins C dx (putF f y fs)))
theorem znw (h:tv σ H fun y H1=>ta σ H1 fun x H2=>zh2 K f y x H2 fun H3=>nx σ H3):sFld K ta tv f ⟨nx,rt,bk,ct⟩ σ H:=h
theorem za5 {y:V} {N:Hp→Prop} (h:H a=some (.ins C dx fs)) (c:Cls K C) (n:zbJ K C f) (l:fs.length < 1000) (q:∀ H2,But a H H2→H2 a=some (.ins C dx (putF f y fs))→N H2):zh2 K f y (.ref a) H N:=⟨a,C,dx,fs,rfl,h,c,n,l,q _ But.upd zaz⟩
def zbp (C:Addr) (m:Str) (sp:Sp) (E:XK) (t:TA) (σ:St) (x:V) (H1:Hp) (Q:VK):Prop:=∃ a dx fs,x=.ref a∧H1 a=some (.ins C dx fs)∧fs.lookup m=none∧t σ H1 fun vs H2=>sp (x::(vs++[])) H2 Q E
theorem znx (h:ta σ H fun x H1=>zbp C m sp E tl σ x H1 Q):zlQ C m sp [] E ta tl σ H Q:=h
theorem zaO (h:H a=some (.ins C dx fs)) (l:fs.lookup m=none) (q:tl σ H fun vs H2=>sp (.ref a::(vs++[])) H2 Q E):zbp C m sp E tl σ (.ref a) H Q:=⟨a,dx,fs,rfl,h,l,q⟩
def zh3 (C:Addr) (sp:Sp) (E:XK) (vs:List V) (H1:Hp) (Q:VK):Prop:=∀ x dx,H1 x=none→H1 dx=none→dx≠x→sp (.ref x::(vs++[])) (upd (upd H1 dx (.own x)) x (.ins C dx [])) (fun v H2=>v=.non∧Q (.ref x) H2) E
theorem zny (h:tl σ H fun vs H1=>zh3 C sp E vs H1 Q):zlR C sp [] E tl σ H Q:=h
theorem zgC {vs:List V} (h:∀ x dx H2,H x=none→H dx=none→dx≠x→Same H H2→H2 x=some (.ins C dx [])→sp (.ref x::(vs++[])) H2 (fun v H3=>v=.non∧Q (.ref x) H3) E):zh3 C sp E vs H Q :=
 fun x dx hx hd ne=>h x dx _ hx hd ne (fun b u z=>by rw [zaR (zaj z hx),zaR (zaj z hd)];exact z) zaz
theorem znz {tget:V→V→Hp→VK→Prop} {tip:TIp} {tset:TSet} (h:to σ H fun o H1=>ti σ H1 fun i H2=>tget o i H2 fun x H3=>te σ H3 fun y H4=>tip x y H4 fun z H5=>tset o i z H5 fun H6=>nx σ H6):zmN to ti te tget tip tset ⟨nx,rt,bk,ct⟩ σ H:=h
theorem znA (h:SqL K H p (ns.map V.int)) (h0:0≤i) (h1:i < ns.length) (q:Q (.int (ns.getD i.toNat 0)) H):znv K (.ref p) (.int i) H Q:=⟨p,ns,i,rfl,rfl,h,h0,h1,q⟩
theorem zor {g:Int→Int→Int} {j:Int} (q:Q (.int (g i j)) H):ipI g (.int i) (.int j) H Q:=⟨i,j,rfl,rfl,q⟩
theorem zhm (h:H p=some (.lst (ns.map V.int))) (hi:i∈ns) (q:∀ H2,But p H H2→H2 p=some (.lst ((ns.erase i).map V.int))→Q .non H2):rRemove (.ref p) [.int i] H Q:=⟨p,ns,i,rfl,rfl,h,hi,q _ But.upd zaz⟩
def kvT (ks:List Int):List (Key×V):=ks.map fun k=>(Sum.inl k,.bl true)
theorem zh4 (ks:List Int) (k:Int):(valV (kvT ks) (Sum.inl k:Key)).isSome=decide (k∈ks):=by
 induction ks with
 | nil=>rfl
 | cons y ys ih =>
   show (valV (((Sum.inl y:Key),V.bl true)::kvT ys) (Sum.inl k:Key)).isSome=_
   by_cases e:y=k
   ·subst e;rw [zbw rfl];simp
   ·rw [zbx (fun z=>e (Sum.inl.inj z)),ih,decide_eq_decide];simp [Ne.symm e]
theorem zk6 {ks:List Int} {k:Int} (h:k∉ks):putK (kvT ks) (Sum.inl k:Key) (.bl true)=kvT (ks++[k]):=by
 have:valV (kvT ks) (Sum.inl k:Key)=none:=by
  have:=zh4 ks k;rw [decide_eq_false h] at this
  cases e:valV (kvT ks) (Sum.inl k:Key) with
  | none=>rfl
  | some v=>rw [e] at this;cases this
 rw [zkI _ this];unfold kvT;rw [map_append];rfl
def zj4 (y x:V) (H2:Hp) (Q:VK):Prop:=∃ a o,x=.ref a∧DGet H2 a y o∧Q (.bl o.isSome) H2
theorem zos (h:ta σ H fun y H1=>tb σ H1 fun x H2=>zj4 y x H2 Q):tDIn ta tb σ H Q:=h
theorem zk7 {ks:List Int} (h:H a=some (.dK (kvT ks))) (q:Q (.bl (decide (i∈ks))) H):zj4 (.int i) (.ref a) H Q :=
 ⟨a,_,rfl,DGet.k (k:=(Sum.inl i:Key)) h,by rw [zh4];exact q⟩
def zfX (v x y:V) (H3:Hp) (N:Hp→Prop):Prop:=∃ a H4,x=.ref a∧DPut H3 a y v H4∧N H4
theorem znB (h:tv σ H fun v H1=>ta σ H1 fun x H2=>tb σ H2 fun y H3=>zfX v x y H3 fun H4=>nx σ H4):zmY ta tb tv ⟨nx,rt,bk,ct⟩ σ H:=h
theorem zj5 {ks:List Int} {N:Hp→Prop} (h:H a=some (.dK (kvT ks))) (hz:ks.length≤1000) (hn:i∉ks) (q:∀ H2,But a H H2→H2 a=some (.dK (kvT (ks++[i])))→N H2):zfX (.bl true) (.ref a) (.int i) H N:=by
 refine ⟨a,_,rfl,DPut.k (k:=(Sum.inl i:Key)) h (by unfold kvT;rw [length_map];exact za0 hz),q _ But.upd ?_⟩;rw [zaz,zk6 hn]
theorem zgD (h:∀ p H2,H p=none→Same H H2→H2 p=some (.dK (kvT []))→Q (.ref p) H2):tDNewK σ H Q:=fun p hp=>h p _ hp (zaY hp) zaz
end
end L2
namespace Prf
open PySem PySem.Spec PyProof.Rows L2
def prsB:List Int→List (List Int)
 | []=>[]
 | x::xs=>(xs.map fun y=>[x,y])++prsB xs
def zk8 (a b:List Int):Prop:=a.getD 0 0 < b.getD 0 0∨a.getD 0 0=b.getD 0 0∧a.getD 1 0≤b.getD 1 0
theorem prs_mem:∀ {ns:List Int} {r:List Int},ns.Pairwise (· < ·)→(r∈prsB ns↔∃ x y,r=[x,y]∧x∈ns∧y∈ns∧x < y)
 | [],r,_=>by simp [prsB]
 | n::ns,r,h=>by
   obtain ⟨h1,h2⟩:=pairwise_cons.mp h;unfold prsB;rw [mem_append,prs_mem h2,mem_map];constructor
   ·rintro (⟨y,hy,rfl⟩ | ⟨x,y,rfl,hx,hy,hlt⟩)
    ·exact ⟨n,y,rfl,by simp,by simp [hy],h1 y hy⟩
    ·exact ⟨x,y,rfl,by simp [hx],by simp [hy],hlt⟩
   ·rintro ⟨x,y,rfl,hx,hy,hlt⟩;rcases mem_cons.mp hx with rfl | hx'
    ·rcases mem_cons.mp hy with rfl | hy'
     ·omega
     ·exact .inl ⟨y,hy',rfl⟩
    ·rcases mem_cons.mp hy with rfl | hy'
     ·have:=h1 x hx';omega
     ·exact .inr ⟨x,y,rfl,hx',hy',hlt⟩
theorem prs_ord:∀ {ns:List Int},ns.Pairwise (· < ·)→(prsB ns).Pairwise zk8
 | [],_=>List.Pairwise.nil
 | n::ns,h=>by
   obtain ⟨h1,h2⟩:=pairwise_cons.mp h;unfold prsB;refine List.pairwise_append.mpr ⟨?_,prs_ord h2,fun a ha b hb=>?_⟩
   ·rw [pairwise_map];exact h2.imp fun h=>.inr ⟨rfl,Int.le_of_lt h⟩
   ·obtain ⟨y,hy,rfl⟩:=mem_map.mp ha;obtain ⟨x,z,rfl,hx,_,_⟩:=(prs_mem h2).mp hb;exact .inl (h1 x hx)
theorem zk9 {ns:List Int} {i:Nat} (h:i < ns.length):prsB (ns.drop i)=((ns.drop (i+1)).map fun y=>[ns.getD i 0,y])++prsB (ns.drop (i+1)):=by
 rw [List.drop_eq_getElem_cons h,getD_eq_getElem?_getD,getElem?_eq_getElem h];rfl
theorem prs_len:∀ (ns:List Int),(prsB ns).length≤ns.length * ns.length
 | []=>Nat.le_refl _
 | n::ns=>by
   unfold prsB;rw [length_append,length_map,length_cons,Nat.add_mul,Nat.mul_add];have:=prs_len ns;omega
theorem cnt_append (a b:LI) (x:Int):cntB (a++b) x=cntB a x+cntB b x:=by
 unfold cntB;rw [filter_append,length_append]
def zgE (rs:LI) (ls:List Int):LI:=(List.range rs.length).map fun i=>[(rs.getD i []).getD 0 0,ls.getD i 0]
theorem zcE (rs:LI) (ls:List Int):(zgE rs ls).length=rs.length:=by unfold zgE;rw [length_map,length_range]
theorem zc5 {rs:LI} {ls:List Int} {i:Nat} (h:i < rs.length):(zgE rs ls).getD i []=[(rs.getD i []).getD 0 0,ls.getD i 0]:=zaD h
theorem zfY {rs rows:LI} {i:Nat} (h:i < rs.length):(za1 rs rows).getD i 0=(rs.getD i []).getD 1 0-(cntB rows ((i:Int)+1):Int):=zaD h
theorem zgF {rs:LI} {ls:List Int} {h:Int} {row:List Int}:zcy (zgE rs ls) h row=true↔zcy rs h row=true:=by
 rw [zb9,zb9,zcE];constructor
 ·rintro ⟨h1,h2,h3,h4,h5,h6⟩;rw [zc5 (by omega)] at h5 h6;exact ⟨h1,h2,h3,h4,h5,h6⟩
 ·rintro ⟨h1,h2,h3,h4,h5,h6⟩;refine ⟨h1,h2,h3,h4,?_,?_⟩
  ·rw [zc5 (by omega)];exact h5
  ·rw [zc5 (by omega)];exact h6
def zcs (hs:List Int) (rs rows:LI):Prop:=rows.length≤hs.length∧∀ k,k < rows.length→zcy rs (hs.getD k 0) (rows.getD k [])=true
def Ext (hs:List Int) (rs rows:LI):Prop:=∃ more,zaW hs rs (rows++more)=true
theorem zbr {hs:List Int} {rs rows:LI}:zaW hs rs rows=true↔rows.length=hs.length∧(∀ k,k < hs.length→zcy rs (hs.getD k 0) (rows.getD k [])=true)∧∀ k,k < rs.length→(cntB rows ((k:Int)+1):Int)≤(rs.getD k []).getD 1 0:=by
 unfold zaW;simp only [Bool.and_eq_true,decide_eq_true_eq,all_eq_true,mem_range];have e0:∀ k:Nat,(0:Int)+(k:Int)+1=(k:Int)+1:=fun k=>by omega
 constructor
 ·rintro ⟨⟨h1,h2⟩,h3⟩;exact ⟨h1,h2,fun k hk=>by have:=h3 k hk;rwa [e0] at this⟩
 ·rintro ⟨h1,h2,h3⟩;exact ⟨⟨h1,h2⟩,fun k hk=>by rw [e0];exact h3 k hk⟩
theorem zcF {α:Type} {xs ys:List α} {d:α} {i:Nat} (h:xs.length≤i):(xs++ys).getD i d=ys.getD (i-xs.length) d:=by
 rw [getD_eq_getElem?_getD,getD_eq_getElem?_getD,getElem?_append_right h]
theorem zeT {α:Type} {xs:List α} {d:α} {i k:Nat}:(xs.drop k).getD i d=xs.getD (k+i) d:=by
 rw [getD_eq_getElem?_getD,getD_eq_getElem?_getD,List.getElem?_drop]
theorem znC {hs:List Int} {rs rows:LI} (P:zcs hs rs rows):Ext hs rs rows↔(∀ k,k < rs.length→(cntB rows ((k:Int)+1):Int)≤(rs.getD k []).getD 1 0)∧∃ more,zaW (hs.drop rows.length) (zgE rs (za1 rs rows)) more=true:=by
 obtain ⟨pl,pp⟩:=P;constructor
 ·rintro ⟨more,h⟩;obtain ⟨h1,h2,h3⟩:=zbr.mp h;rw [length_append] at h1;refine ⟨fun k hk=>?_,more,zbr.mpr ⟨by rw [length_drop];omega,fun k hk=>?_,fun k hk=>?_⟩⟩
  ·have:=h3 k hk;rw [cnt_append] at this;omega
  ·rw [length_drop] at hk;have:=h2 (rows.length+k) (by omega);rw [zcF (by omega),Nat.add_sub_cancel_left] at this;rw [zeT];exact zgF.mpr this
  ·rw [zcE] at hk;have:=h3 k hk;rw [cnt_append] at this;rw [zc5 hk,zfY hk];show (cntB more ((k:Int)+1):Int)≤(rs.getD k []).getD 1 0-(cntB rows ((k:Int)+1):Int);omega
 ·rintro ⟨h0,more,h⟩;obtain ⟨h1,h2,h3⟩:=zbr.mp h;rw [length_drop] at h1 h2;refine ⟨more,zbr.mpr ⟨by rw [length_append];omega,fun k hk=>?_,fun k hk=>?_⟩⟩
  ·by_cases e:k < rows.length
   ·rw [zaB e];exact pp k e
   ·rw [zcF (by omega)];have:=h2 (k-rows.length) (by omega);rw [zeT] at this;have e2:rows.length+(k-rows.length)=k:=by omega
    rw [e2] at this;exact zgF.mp this
  ·have:=h3 k (by rw [zcE];exact hk);rw [zc5 hk,zfY hk] at this;have t2:(cntB more ((k:Int)+1):Int)≤(rs.getD k []).getD 1 0-(cntB rows ((k:Int)+1):Int):=this;rw [cnt_append];omega
theorem znD {hs:List Int} {rs rows:LI} (B:InB hs rs) (h0:∀ k,k < rs.length→(cntB rows ((k:Int)+1):Int)≤(rs.getD k []).getD 1 0) (n:Nat):InB (hs.drop n) (zgE rs (za1 rs rows)):=by
 have lp:=B.lp;have lr:=B.lr;refine ⟨by rw [length_drop];omega,by rw [zcE];exact lr,fun i hi=>?_,fun i hi=>?_,fun i hi=>?_,fun i hi=>?_⟩
 ·rw [length_drop] at hi;rw [zeT];exact B.hh _ (by omega)
 ·rw [zcE] at hi;rw [zc5 hi];rfl
 ·rw [zcE] at hi;rw [zc5 hi];exact B.rh i hi
 ·rw [zcE] at hi;have:=h0 i hi;have:=B.rl i hi;rw [zc5 hi,zfY hi];show 0≤(rs.getD i []).getD 1 0-(cntB rows ((i:Int)+1):Int)∧(rs.getD i []).getD 1 0-(cntB rows ((i:Int)+1):Int)≤30;omega
theorem zh5 {row:List Int}:∀ {t full:LI},nbB t full=true→((∀ j,j < t.length→(t.getD j []).getD 0 0=(full.getD j []).getD 0 0∧(t.getD j []).getD 1 0=(full.getD j []).getD 1 0)→t.length < full.length→zk8 row (full.getD t.length []))→nbB (t++[row]) full=true
 | [],[],_,_=>rfl
 | [],f::fs,_,h=>by
   have h1:=h (fun j hj=>absurd hj (by simp)) (by simp);have h2:zk8 row f:=h1;show (if row.getD 0 0=f.getD 0 0 then (if row.getD 1 0=f.getD 1 0 then nbB [] fs else decide (row.getD 1 0 < f.getD 1 0)) else decide (row.getD 0 0 < f.getD 0 0))=true;unfold zk8 at h2
   by_cases e:row.getD 0 0=f.getD 0 0
   ·rw [if_pos e]
    by_cases e2:row.getD 1 0=f.getD 1 0
    ·rw [if_pos e2];rfl
    ·rw [if_neg e2];exact decide_eq_true (by omega)
   ·rw [if_neg e];exact decide_eq_true (by omega)
 | t::ts,[],_,_=>rfl
 | t::ts,f::fs,hn,h=>by
   have hn':(if t.getD 0 0=f.getD 0 0 then (if t.getD 1 0=f.getD 1 0 then nbB ts fs else decide (t.getD 1 0 < f.getD 1 0)) else decide (t.getD 0 0 < f.getD 0 0))=true:=hn;show (if t.getD 0 0=f.getD 0 0 then (if t.getD 1 0=f.getD 1 0 then nbB (ts++[row]) fs else decide (t.getD 1 0 < f.getD 1 0)) else decide (t.getD 0 0 < f.getD 0 0))=true
   by_cases e:t.getD 0 0=f.getD 0 0
   ·rw [if_pos e] at hn' ⊢
    by_cases e2:t.getD 1 0=f.getD 1 0
    ·rw [if_pos e2] at hn' ⊢;refine zh5 hn' fun hj hl=>?_;refine h (fun j hj'=>?_) (by simpa using hl)
     cases j with
     | zero=>exact ⟨e,e2⟩
     | succ j=>exact hj j (by simpa using hj')
    ·rw [if_neg e2] at hn' ⊢;exact hn'
   ·rw [if_neg e] at hn' ⊢;exact hn'
theorem znE {a b:List Int} (ha:a.length=2) (hb:b.length=2) (h0:a.getD 0 0=b.getD 0 0) (h1:a.getD 1 0=b.getD 1 0):a=b:=by
 rw [len2 ha,len2 hb,h0,h1]
end Prf
namespace L2
open PySem PySem.Spec PyProof.Rows
section
variable {σ:St} {H:Hp} {Q:VK} {K:PySem.W.Frag} {ta tb:TE} {a:Addr} {i:Int} {v:V}
def zh6 (y x:V) (H2:Hp) (Q:VK):Prop:=∃ a o,x=.ref a∧DGet H2 a y o∧Q (.bl (!o.isSome)) H2
theorem znF (h:ta σ H fun y H1=>tb σ H1 fun x H2=>zh6 y x H2 Q):zjB ta tb σ H Q:=h
theorem zj6 {kvs:List (Key×V)} (h:H a=some (.dK kvs)) (q:Q (.bl (!(valV kvs (Sum.inl i:Key)).isSome)) H):zh6 (.int i) (.ref a) H Q:=⟨a,_,rfl,DGet.k (k:=Sum.inl i) h,q⟩
def zh7 (x y:V) (H2:Hp) (Q:VK):Prop:=∃ a v,x=.ref a∧DGet H2 a y (some v)∧Q v H2
theorem znG (h:ta σ H fun x H1=>tb σ H1 fun y H2=>zh7 x y H2 Q):zmX ta tb σ H Q:=h
theorem zj7 {kvs:List (Key×V)} (h:H a=some (.dK kvs)) (e:valV kvs (Sum.inl i:Key)=some v) (q:Q v H):zh7 (.ref a) (.int i) H Q:=⟨a,v,rfl,e▸DGet.k (k:=Sum.inl i) h,q⟩
theorem ziJ {kvs:List (Key×V)} {N:Hp→Prop} (h:H a=some (.dK kvs)) (hz:kvs.length≤1000) (q:∀ H2,But a H H2→H2 a=some (.dK (putK kvs (Sum.inl i:Key) v))→N H2):zfX v (.ref a) (.int i) H N :=
 ⟨a,_,rfl,DPut.k (k:=Sum.inl i) h (za0 hz),q _ But.upd zaz⟩
end
end L2
namespace Prf
open PySem PySem.Spec PyProof.Rows L2
structure ExS where
 hs:List Int
 rs:LI
 step:Int
 dl:Option (List (List Int)×List (List Int))
def ExS.nm (s:ExS):LI:=(s.dl.map (·.1)).getD []
def ExS.en (s:ExS):LI:=(s.dl.map (·.2)).getD []
def zaE (en:LI) (k:Nat) (r:Int):Option Int:=((en.filter fun e=>decide (e.getD 0 0=(k:Int)+1) && decide (e.getD 1 0=r)).getLast?).map fun e=>e.getD 2 0
theorem zdO (k:Nat) (r:Int):zaE [] k r=none:=rfl
theorem zbR (en:LI) (e:List Int) (k:Nat) (r:Int):zaE (en++[e]) k r=if e.getD 0 0=(k:Int)+1∧e.getD 1 0=r then some (e.getD 2 0) else zaE en k r:=by
 unfold zaE;rw [filter_append]
 by_cases h:e.getD 0 0=(k:Int)+1∧e.getD 1 0=r
 ·have:(decide (e.getD 0 0=(k:Int)+1) && decide (e.getD 1 0=r))=true:=by rw [decide_eq_true h.1,decide_eq_true h.2];rfl
  rw [if_pos h,filter_cons,if_pos this,List.filter_nil,List.getLast?_append];rfl
 ·have:(decide (e.getD 0 0=(k:Int)+1) && decide (e.getD 1 0=r))=false:=by
   rw [Bool.eq_false_iff];intro z;rw [Bool.and_eq_true] at z;exact h ⟨of_decide_eq_true z.1,of_decide_eq_true z.2⟩
  rw [if_neg h,filter_cons,this,List.filter_nil];simp
def exFs (va vb vs vd vc ve:V):List (Str×V):=[("paper_houses",va),("reader_rows",vb),("widest_step",vs),("is_dealt",vd),("named_readers",vc),("entered_points",ve)]
section
variable {va vb vs vd vc ve v:V}
theorem exFs_mk:putF "entered_points" ve (putF "named_readers" vc (putF "is_dealt" vd (putF "widest_step" vs (putF "reader_rows" vb (putF "paper_houses" va [])))))=exFs va vb vs vd vc ve:=by
 unfold exFs
 repeat (first | rw [if_neg (by decide +kernel)] | simp only [putF])
theorem exFs_a:(exFs va vb vs vd vc ve).lookup ("paper_houses" : Str)=some va:=by rw [← exFs_mk];simp only [zaL];repeat (first | rw [if_pos trivial] | rw [if_pos rfl] | rw [if_neg (by decide +kernel)])
theorem exFs_b:(exFs va vb vs vd vc ve).lookup ("reader_rows" : Str)=some vb:=by rw [← exFs_mk];simp only [zaL];repeat (first | rw [if_pos trivial] | rw [if_pos rfl] | rw [if_neg (by decide +kernel)])
theorem exFs_s:(exFs va vb vs vd vc ve).lookup ("widest_step" : Str)=some vs:=by rw [← exFs_mk];simp only [zaL];repeat (first | rw [if_pos trivial] | rw [if_pos rfl] | rw [if_neg (by decide +kernel)])
theorem exFs_d:(exFs va vb vs vd vc ve).lookup ("is_dealt" : Str)=some vd:=by rw [← exFs_mk];simp only [zaL];repeat (first | rw [if_pos trivial] | rw [if_pos rfl] | rw [if_neg (by decide +kernel)])
theorem exFs_c:(exFs va vb vs vd vc ve).lookup ("named_readers" : Str)=some vc:=by rw [← exFs_mk];simp only [zaL];repeat (first | rw [if_pos trivial] | rw [if_pos rfl] | rw [if_neg (by decide +kernel)])
theorem exFs_e:(exFs va vb vs vd vc ve).lookup ("entered_points" : Str)=some ve:=by rw [← exFs_mk];simp only [zaL];repeat (first | rw [if_pos trivial] | rw [if_pos rfl] | rw [if_neg (by decide +kernel)])
theorem exFs_ps:putF "widest_step" v (exFs va vb vs vd vc ve)=exFs va vb v vd vc ve:=by
 unfold exFs;simp only [putF];repeat (first | rw [if_pos trivial] | rw [if_pos rfl] | rw [if_neg (by decide +kernel)])
theorem exFs_pd:putF "is_dealt" v (exFs va vb vs vd vc ve)=exFs va vb vs v vc ve:=by
 unfold exFs;simp only [putF];repeat (first | rw [if_pos trivial] | rw [if_pos rfl] | rw [if_neg (by decide +kernel)])
theorem exFs_pc:putF "named_readers" v (exFs va vb vs vd vc ve)=exFs va vb vs vd v ve:=by
 unfold exFs;simp only [putF];repeat (first | rw [if_pos trivial] | rw [if_pos rfl] | rw [if_neg (by decide +kernel)])
theorem exFs_pe:putF "entered_points" v (exFs va vb vs vd vc ve)=exFs va vb vs vd vc v:=by
 unfold exFs;simp only [putF];repeat (first | rw [if_pos trivial] | rw [if_pos rfl] | rw [if_neg (by decide +kernel)])
end
def exFields:List Str:=["paper_houses","reader_rows","widest_step","is_dealt","named_readers","entered_points"]
theorem zj8 {va vb vs vd vc ve:V} {m:Str} (h:m∉exFields):(exFs va vb vs vd vc ve).lookup m=none:=by
 have hn:∀ f∈exFields,¬m=f:=fun f hf z=>h (z▸hf);rw [← exFs_mk];simp only [zaL];rw [if_neg (hn _ (by decide +kernel)),if_neg (hn _ (by decide +kernel)),if_neg (hn _ (by decide +kernel)),if_neg (hn _ (by decide +kernel)),if_neg (hn _ (by decide +kernel)),if_neg (hn _ (by decide +kernel))];rfl
def zcT (n:Nat) (en:LI) (k:Nat) (row:List Int):Prop:=∃ f s:Int,1≤f∧f < s∧s≤n∧(row=[f,s]∨∃ t:Int,row=[f,s,t]∧1≤t∧t≤n∧t≠f∧t≠s∧(zaE en k f).isSome=true∧(zaE en k s).isSome=true)
structure Wf (st:ExS):Prop where
 ln:st.dl.isSome=true→st.nm.length=st.hs.length
 row:∀ k,k < st.nm.length→zcT st.rs.length st.en k (st.nm.getD k [])
 pts:∀ k r p,zaE st.en k r=some p→0≤p∧p≤100
 stp:0≤st.step∧st.step≤100
structure ExAd where
 x:Addr
 dx:Addr
 a:Addr
 b:Addr
 c:Addr
 d:Addr
 ps:List Addr
 qs:List Addr
 ds:List Addr
def ExAd.own (e:ExAd):List Addr:=e.x::e.a::e.b::e.c::e.d::(e.ps++(e.qs++e.ds))
structure ExIn (C:Addr) (H:Hp) (e:ExAd) (st:ExS) (kvs:List (List (Key×V))):Prop where
 ob:H e.x=some (.ins C e.dx (exFs (.ref e.a) (.ref e.b) (.int st.step) (.bl st.dl.isSome) (.ref e.c) (.ref e.d)))
 ha:H e.a=some (.lst (st.hs.map V.int))
 hb:H e.b=some (.lst (e.ps.map V.ref))
 hc:H e.c=some (.lst (e.qs.map V.ref))
 hd:H e.d=some (.lst (e.ds.map V.ref))
 lp:e.ps.length=st.rs.length
 lq:e.qs.length=st.nm.length
 ld:e.ds.length=st.nm.length
 rp:∀ i,i < st.rs.length→H (e.ps.getD i 0)=some (.lst ((st.rs.getD i []).map V.int))
 rq:∀ i,i < st.nm.length→H (e.qs.getD i 0)=some (.lst ((st.nm.getD i []).map V.int))
 rd:∀ i,i < st.nm.length→H (e.ds.getD i 0)=some (.dK (kvs.getD i []))
 vk:∀ i,i < st.nm.length→∀ r:Int,valV (kvs.getD i []) (Sum.inl r:Key)=(zaE st.en i r).map V.int
 sk:∀ i,i < st.nm.length→(kvs.getD i []).length≤st.en.length
 lk:kvs.length=st.nm.length
 nd:e.own.Nodup
 wf:Wf st
def ExAt (C:Addr) (H:Hp) (x:Addr) (F:Addr→Prop) (st:ExS):Prop:=∃ e kvs,e.x=x∧(∀ b,F b↔b∈e.own)∧ExIn C H e st kvs
theorem zb0 {ps:List Addr} {i:Nat} (h:i < ps.length):ps.getD i 0∈ps:=by
 rw [getD_eq_getElem?_getD,getElem?_eq_getElem h];exact getElem_mem h
section
variable {C x:Addr} {H H':Hp} {e:ExAd} {st:ExS} {kvs:List (List (Key×V))} {F:Addr→Prop}
theorem own_x:e.x∈e.own:=mem_cons_self
theorem own_a:e.a∈e.own:=mem_cons_of_mem _ mem_cons_self
theorem own_b:e.b∈e.own:=mem_cons_of_mem _ (mem_cons_of_mem _ mem_cons_self)
theorem own_c:e.c∈e.own:=mem_cons_of_mem _ (mem_cons_of_mem _ (mem_cons_of_mem _ mem_cons_self))
theorem own_d:e.d∈e.own:=mem_cons_of_mem _ (mem_cons_of_mem _ (mem_cons_of_mem _ (mem_cons_of_mem _ mem_cons_self)))
theorem zmk {b:Addr} (h:b∈e.ps++(e.qs++e.ds)):b∈e.own:=mem_cons_of_mem _ (mem_cons_of_mem _ (mem_cons_of_mem _ (mem_cons_of_mem _ (mem_cons_of_mem _ h))))
theorem zla {b:Addr} (h:b∈e.ps):b∈e.own:=zmk (mem_append_left _ h)
theorem zlb {b:Addr} (h:b∈e.qs):b∈e.own:=zmk (mem_append_right _ (mem_append_left _ h))
theorem zh8 {b:Addr} (h:b∈e.ds):b∈e.own:=zmk (mem_append_right _ (mem_append_right _ h))
theorem ExIn.keep (E:ExIn C H e st kvs) (k:∀ b o,b∈e.own→H b=some o→H' b=some o):ExIn C H' e st kvs :=
 ⟨k _ _ own_x E.ob,k _ _ own_a E.ha,k _ _ own_b E.hb,k _ _ own_c E.hc,k _ _ own_d E.hd,E.lp,E.lq,E.ld,fun i hi=>k _ _ (zla (zb0 (by rw [E.lp];exact hi))) (E.rp i hi),fun i hi=>k _ _ (zlb (zb0 (by rw [E.lq];exact hi))) (E.rq i hi),fun i hi=>k _ _ (zh8 (zb0 (by rw [E.ld];exact hi))) (E.rd i hi),E.vk,E.sk,E.lk,E.nd,E.wf⟩
theorem ExIn.mem (E:ExIn C H e st kvs) {b:Addr} (h:b∈e.own):∃ o,H b=some o:=by
 unfold ExAd.own at h;simp only [mem_cons,mem_append] at h;rcases h with h | h | h | h | h | h | h | h
 ·exact ⟨_,h▸E.ob⟩
 ·exact ⟨_,h▸E.ha⟩
 ·exact ⟨_,h▸E.hb⟩
 ·exact ⟨_,h▸E.hc⟩
 ·exact ⟨_,h▸E.hd⟩
 ·obtain ⟨i,hi,ei⟩:=L2.mem_getD (d:=0) h;exact ⟨_,ei▸E.rp i (by have:=E.lp;omega)⟩
 ·obtain ⟨i,hi,ei⟩:=L2.mem_getD (d:=0) h;exact ⟨_,ei▸E.rq i (by have:=E.lq;omega)⟩
 ·obtain ⟨i,hi,ei⟩:=L2.mem_getD (d:=0) h;exact ⟨_,ei▸E.rd i (by have:=E.ld;omega)⟩
theorem ExAt.keep (E:ExAt C H x F st) (k:∀ b o,F b→H b=some o→H' b=some o):ExAt C H' x F st:=by
 obtain ⟨e,kvs,hx,hF,I⟩:=E;exact ⟨e,kvs,hx,hF,I.keep fun b o hb eb=>k b o ((hF b).mpr hb) eb⟩
theorem ExAt.mem (E:ExAt C H x F st) {b:Addr} (h:F b):∃ o,H b=some o:=by
 obtain ⟨e,kvs,hx,hF,I⟩:=E;exact I.mem ((hF b).mp h)
def exMeths:List Str:=["bring_paper","bring_reader","set_step","deal","enter","papers","readers","step","dealt","dealing","against","due","marks","left","refuse_behind_dealing","refuse_ahead_of_dealing","refuse_not_due","due_readers","points_for","mark_for","name_third","needs_third"]
theorem zfE {m:Str} (h:m∈exMeths):m∉exFields:=by
 revert m
 have:exMeths.all (fun m=>!exFields.contains m)=true:=by decide +kernel
 intro m h z;have:=all_eq_true.mp this m h;simp only [Bool.not_eq_true',← Bool.not_eq_true,List.contains_iff_mem] at this;exact this z
theorem ExAt.ob (E:ExAt C H x F st):∃ dx fs,H x=some (.ins C dx fs)∧∀ m∈exMeths,fs.lookup m=none:=by
 obtain ⟨e,kvs,rfl,hF,I⟩:=E;exact ⟨_,_,I.ob,fun m hm=>zj8 (zfE hm)⟩
end
structure ExFr (H H':Hp) (F F':Addr→Prop):Prop where
 kp:∀ b o,H b=some o→¬F b→H' b=some o
 fp:∀ b,F' b→F b∨H b=none
section
variable {C x:Addr} {H H':Hp} {e:ExAd} {st:ExS} {kvs:List (List (Key×V))} {F F':Addr→Prop}
theorem ExFr.same (s:Same H H'):ExFr H H' F F:=⟨fun b o e _=>s b o e,fun b h=>.inl h⟩
theorem ExFr.but {p:Addr} (b:But p H H') (hp:F p) (fp:∀ b,F' b→F b∨H b=none):ExFr H H' F F':=⟨fun c o e n=>by rw [b c (fun z=>n (z▸hp))];exact e,fp⟩
theorem ExAt.same (E:ExAt C H x F st) (s:Same H H'):ExAt C H' x F st:=E.keep fun b o _ e=>s b o e
theorem ExAt.new (E:ExAt C H x F st) {b:Addr} (h:H b=none):¬F b:=fun z=>by obtain ⟨o,e⟩:=E.mem z;rw [h] at e;cases e
theorem ExIn.new (E:ExIn C H e st kvs) {b:Addr} (h:H b=none):b∉e.own:=fun z=>by obtain ⟨o,e⟩:=E.mem z;rw [h] at e;cases e
end
theorem ExFr.nf {H0 H H':Hp} {F F':Addr→Prop} (f:ExFr H H' F F') (s:Same H0 H) (n:∀ c o,H0 c=some o→¬F c):(∀ c o,H0 c=some o→¬F' c)∧Same H0 H' :=
 ⟨fun c o e z=>(f.fp c z).elim (n c o e) fun z=>(by rw [s c o e] at z;cases z),fun c o e=>f.kp c o (s c o e) (n c o e)⟩
end Prf
namespace L2
open PySem PySem.Spec PyProof.Rows
section
variable {σ:St} {H:Hp} {Q:VK} {K:PySem.W.Frag} {js:List Nat} {te:TE} {J:It} {n k:Nat} {g:TG} {w:Nat→St} {x:Nat→V}
theorem zh9 (T:zcr J n k js σ g w H) (hz:n≤1000) (R:Addr→Nat→V→Hp→Prop) (S:List V→V→Prop)
  (st:∀ p i v H1 H2,R p i v H1→(∀ b o,H1 b=some o→b≠p→H2 b=some o)→R p i v H2)
  (he:∀ p ys i H' Q',i < n→H p=none→Same H H'→H' p=some (.lst ys)→ys.length=i→(∀ j,j < i→R p j (ys.getD j .non) H')→(∀ v H2,Same H' H2→R p i v H2→S ys v→Q' v H2)→te (w i++capV js σ) H' Q')
  (hq:∀ p vs H2,H p=none→Same H H2→H2 p=some (.lst vs)→vs.length=n→(∀ i,i < n→R p i (vs.getD i .non) H2)→(∀ i,i < n→S (vs.take i) (vs.getD i .non))→Q (.ref p) H2):zhi J k js g tTT te σ H Q:=by
 intro p hp;refine ⟨fun i m σc H'=>m=n-i∧i≤n∧(∃ u:St,u.length=k∧σc=u++capV js σ)∧Same H H'∧∃ vs:List V,vs.length=i∧H' p=some (.lst vs)∧(∀ j,j < i→R p j (vs.getD j .non) H')∧∀ j,j < i→S (vs.take j) (vs.getD j .non),⟨n,by simp,zero_le _,⟨List.replicate k none,length_replicate,rfl⟩,zaY hp,[],rfl,zaz,fun j hj=>absurd hj (by omega),fun j hj=>absurd hj (by omega)⟩,?_⟩;rintro i m σc H' ⟨rfl,hi,⟨u,hu,rfl⟩,s,vs,hvl,hpp,hR,hS⟩;have hsl:n < sizeLine:=za0 hz
 by_cases hlt:i < n
 ·refine .inr ⟨T.go i _ s hlt,fun σ' H'=>(∃ u:St,u.length=k∧σ'=u++capV js σ)∧Same H H'∧∃ vs:List V,vs.length=i+1∧H' p=some (.lst vs)∧(∀ j,j < i+1→R p j (vs.getD j .non) H')∧∀ j,j < i+1→S (vs.take j) (vs.getD j .non),fun σ' H' ⟨h1,h2,h3⟩=>⟨n-(i+1),by omega,rfl,hlt,h1,h2,h3⟩,fun v H2 hy=>?_⟩;refine T.yld i H' v H2 u _ s hlt hu hy fun H3 s3=>?_;refine r_tt ?_;rw [if_pos rfl];have hpp3:=s3 _ _ hpp;refine he p vs i _ _ hlt hp (s.trans s3) hpp3 hvl (fun j hj=>st p j _ _ _ (hR j hj) fun b o e _=>s3 b o e) fun v H5 s5 hv sv=>?_;refine ⟨vs,s5 _ _ hpp3,by omega,⟨w i,T.len i,rfl⟩,zey ((s.trans s3).trans s5) hp,vs++[v],by rw [length_append,hvl];rfl,zaz,fun j hj=>?_,fun j hj=>?_⟩
  ·by_cases hji:j < i
   ·rw [zaB (by omega)];exact st p j _ _ _ (hR j hji) fun b o e nb=>by rw [zaR nb];exact s5 _ _ (s3 _ _ e)
   ·have e0:j=vs.length:=by omega
    subst e0;rw [zaC];exact st p _ _ _ _ (hvl▸hv) fun b o e nb=>by rw [zaR nb];exact e
  ·by_cases hji:j < i
   ·rw [zaB (by omega),List.take_append_of_le_length (by omega)];exact hS j hji
   ·have e0:j=vs.length:=by omega
    subst e0;rw [zaC,List.take_append_of_le_length (Nat.le_refl _),take_length];exact sv
 ·have e:i=n:=by omega
  subst e;exact .inl ⟨T.stop _ s,hq p vs _ hp s hpp hvl hR hS⟩
theorem zcz {xs:List Int} {i:Nat} (h:i < xs.length):(xs.map V.int).getD i .non=.int (xs.getD i 0):=by
 rw [getD_eq_getElem?_getD,getElem?_map,getElem?_eq_getElem h,getD_eq_getElem?_getD,getElem?_eq_getElem h];rfl
theorem zgG {xs ys:List Int} (h:ys.length=xs.length):(List.range xs.length).map (fun i=>[xs.getD i 0,ys.getD i 0])=(xs.zip ys).map fun p=>[p.1,p.2]:=by
 refine ext_getElem (by simp [h]) fun i h1 h2=>?_;have h3:i < xs.length:=by simpa using h1
 rw [getElem_map,getElem_map,List.getElem_range,List.getElem_zip,getD_eq_getElem?_getD,getElem?_eq_getElem h3,getD_eq_getElem?_getD,getElem?_eq_getElem (by omega)];rfl
theorem zb4 {f:Str} {v:V}:∀ {fs:List (Str×V)} {n:Nat},fs.length < n→(putF f v fs).length < n+1
 | [],n,h=>by show 1 < n+1;have:0 < n:=h;omega
 | (g,x)::r,n,h=>by
  show (if g=f then (g,v)::r else (g,x)::putF f v r).length < n+1;have h':r.length+1 < n:=h;split
  ·show r.length+1 < n+1;omega
  ·show (putF f v r).length+1 < n+1;have:=zb4 (f:=f) (v:=v) (fs:=r) (n:=n-1) (by omega);omega
theorem zct {α:Type} (xs:List α) (d:α):(List.range xs.length).map (fun i=>xs.getD i d)=xs:=by
 refine ext_getElem (by simp) fun i h1 h2=>?_;simp at h1 ⊢;rw [getElem?_eq_getElem h1];rfl
theorem zlc {p b:Addr} {xs ys:List V} (h:H p=some (.lst xs)) (h':H b=some (.lst ys)) (hz:xs.length+ys.length≤1000000) (q:∀ H2,But p H H2→H2 p=some (.lst (xs++ys))→Q .non H2):rExtend (.ref p) [.ref b] H Q :=
 ⟨p,b,xs,ys,rfl,rfl,h,h',by rw [sizeLine_eq];omega,q _ But.upd zaz⟩
theorem RowsAt.ext {B H H2 H3:Hp} {p p2:Addr} {rs rs2:LI} (R:RowsAt B p rs H) (R2:RowsAt H p2 rs2 H2) :
  ∃ zs zs2:List V,H2 p=some (.lst zs)∧H2 p2=some (.lst zs2)∧zs.length=rs.length∧zs2.length=rs2.length∧(But p H2 H3→H3 p=some (.lst (zs++zs2))→RowsAt B p (rs++rs2) H3):=by
 obtain ⟨sb,hp,ps,h1,h2,nd,h3⟩:=R;obtain ⟨sb2,hp2,qs,k1,k2,nd2,k3⟩:=R2;refine ⟨_,_,sb2 _ _ h1,k1,by rw [length_map];exact h2,by rw [length_map];exact k2,fun b e=>?_⟩;have ne:∀ i,i < rs2.length→qs.getD i 0≠p:=fun i hi z=>by have:=(k3 i hi).2.1;rw [z,h1] at this;cases this
 refine ⟨(sb.trans sb2).but b hp,hp,ps++qs,by rw [e,map_append],by rw [length_append,length_append,h2,k2],?_,fun i hi=>?_⟩
 ·refine nodup_append.mpr ⟨nd,nd2,fun x hx y hy z=>?_⟩;subst z;obtain ⟨i,hi,ei⟩:=L2.mem_getD (d:=0) hx;obtain ⟨j,hj,ej⟩:=L2.mem_getD (d:=0) hy;have a1:=(h3 i (by omega)).1;have a2:=(k3 j (by omega)).2.1;rw [ei] at a1;rw [ej,a1] at a2
  cases a2
 ·rw [length_append] at hi
  by_cases hlt:i < rs.length
  ·rw [zaB (by omega),zaB hlt];obtain ⟨a1,a2,a3⟩:=h3 i hlt;exact ⟨by rw [b _ a3];exact sb2 _ _ a1,a2,a3⟩
  ·obtain ⟨j,rfl⟩:∃ j,i=rs.length+j:=⟨i-rs.length,by omega⟩
   have e1:(ps++qs).getD (rs.length+j) 0=qs.getD j 0:=by
    rw [getD_eq_getElem?_getD,getD_eq_getElem?_getD,getElem?_append_right (by omega)]
    congr 2;omega
   have e2:(rs++rs2).getD (rs.length+j) []=rs2.getD j []:=by
    rw [getD_eq_getElem?_getD,getD_eq_getElem?_getD,getElem?_append_right (by omega)]
    congr 2;omega
   rw [e1,e2];obtain ⟨a1,a2,a3⟩:=k3 j (by omega);exact ⟨by rw [b _ (ne j (by omega))];exact a1,sb.free a2,ne j (by omega)⟩
theorem ziK (T:zcr J n k js σ g w H) (hz:n≤1000) (he:te=tDNewK)
  (hq:∀ p (ds:List Addr) H2,H p=none→Same H H2→H2 p=some (.lst (ds.map V.ref))→ds.length=n→ds.Nodup→(∀ i,i < n→H2 (ds.getD i 0)=some (.dK [])∧H (ds.getD i 0)=none∧ds.getD i 0≠p)→Q (.ref p) H2):zhi J k js g tTT te σ H Q:=by
 subst he;refine zh9 T hz (fun p i v H2=>∃ q,v=.ref q∧H2 q=some (.dK [])∧H q=none∧q≠p) (fun ys v=>v∉ys) ?_ ?_ ?_
 ·rintro p i v H1 H2 ⟨q,rfl,h1,h2,h3⟩ k;exact ⟨q,rfl,k _ _ h1 h3,h2,h3⟩
 ·intro p ys i H' Q' hi hp s hpp hl hR q;refine zgD fun d H2 hd s2 e2=>q _ _ s2 ⟨d,rfl,e2,s.free hd,(zaj hpp hd).symm⟩ fun hm=>?_;obtain ⟨j,hj,ej⟩:=L2.mem_getD (d:=V.non) hm;obtain ⟨q',e1,e3,_⟩:=hR j (by omega);rw [ej] at e1;have:d=q':=by injection e1
  rw [← this,hd] at e3
  cases e3
 ·intro p vs H2 hp s hpp hl hR hS;have:∃ ds:List Addr,vs=ds.map V.ref:=by
   refine ⟨vs.map fun v=>match v with | .ref a=>a | _=>0,?_⟩;rw [map_map];refine (map_id _).symm.trans (map_congr_left fun v hv=>?_);obtain ⟨j,hj,ej⟩:=L2.mem_getD (d:=V.non) hv;obtain ⟨q',e1,_⟩:=hR j (by omega);rw [ej] at e1;subst e1;rfl
  obtain ⟨ds,rfl⟩:=this;rw [length_map] at hl;have ed:∀ i,i < n→(ds.map V.ref).getD i .non=.ref (ds.getD i 0):=fun i hi=>by
   rw [getD_eq_getElem?_getD,getElem?_map,getElem?_eq_getElem (by omega),getD_eq_getElem?_getD,getElem?_eq_getElem (by omega)];rfl
  refine hq p ds H2 hp s hpp hl ?_ fun i hi=>?_
  ·refine List.pairwise_iff_getElem.mpr fun i j hi hj hlt e=>?_;have:=hS j (by omega);rw [ed j (by omega)] at this;refine this ?_;rw [← map_take];refine mem_map.mpr ⟨ds[i],?_,?_⟩
   ·exact List.mem_iff_getElem.mpr ⟨i,by rw [length_take];omega,by rw [List.getElem_take]⟩
   ·rw [getD_eq_getElem?_getD,getElem?_eq_getElem hj,e];rfl
  ·obtain ⟨q',e1,e2,e3,e4⟩:=hR i hi;rw [ed i hi] at e1;have:ds.getD i 0=q':=by injection e1
   rw [this];exact ⟨e2,e3,e4⟩
end
end L2
namespace Prf
open PySem PySem.Spec PyProof.Rows L2
section
variable {C x:Addr} {H H' H1 H2 H3:Hp} {e:ExAd} {st:ExS} {kvs:List (List (Key×V))} {F F':Addr→Prop}
structure ExNd (e:ExAd):Prop where
 xa:e.x≠e.a
 xb:e.x≠e.b
 xc:e.x≠e.c
 xd:e.x≠e.d
 xp:e.x∉e.ps
 xq:e.x∉e.qs
 xs:e.x∉e.ds
 ab:e.a≠e.b
 ac:e.a≠e.c
 ad:e.a≠e.d
 ap:e.a∉e.ps
 aq:e.a∉e.qs
 as:e.a∉e.ds
 bc:e.b≠e.c
 bd:e.b≠e.d
 bp:e.b∉e.ps
 bq:e.b∉e.qs
 bs:e.b∉e.ds
 cd:e.c≠e.d
 cp:e.c∉e.ps
 cq:e.c∉e.qs
 cs:e.c∉e.ds
 dp:e.d∉e.ps
 dq:e.d∉e.qs
 ds:e.d∉e.ds
 np:e.ps.Nodup
 nq:e.qs.Nodup
 nds:e.ds.Nodup
 pq:∀ b,b∈e.ps→b∉e.qs
 pds:∀ b,b∈e.ps→b∉e.ds
 qds:∀ b,b∈e.qs→b∉e.ds
theorem nd_iff:e.own.Nodup↔ExNd e:=by
 unfold ExAd.own;simp only [nodup_cons,mem_cons,mem_append,nodup_append,not_or];constructor
 ·rintro ⟨⟨xa,xb,xc,xd,xp,xq,xs⟩,⟨ab,ac,ad,ap,aq,as⟩,⟨bc,bd,bp,bq,bs⟩,⟨cd,cp,cq,cs⟩,⟨dp,dq,ds⟩,np,⟨nq,nds,qd⟩,pqd⟩;exact ⟨xa,xb,xc,xd,xp,xq,xs,ab,ac,ad,ap,aq,as,bc,bd,bp,bq,bs,cd,cp,cq,cs,dp,dq,ds,np,nq,nds,fun b h h'=>pqd b h b (.inl h') rfl,fun b h h'=>pqd b h b (.inr h') rfl,fun b h h'=>qd b h b h' rfl⟩
 ·intro N;exact ⟨⟨N.xa,N.xb,N.xc,N.xd,N.xp,N.xq,N.xs⟩,⟨N.ab,N.ac,N.ad,N.ap,N.aq,N.as⟩,⟨N.bc,N.bd,N.bp,N.bq,N.bs⟩,⟨N.cd,N.cp,N.cq,N.cs⟩,⟨N.dp,N.dq,N.ds⟩,N.np,⟨N.nq,N.nds,fun a h b h' z=>N.qds a h (z▸h')⟩,fun a h b h' z=>h'.elim (fun h'=>N.pq a h (z▸h')) fun h'=>N.pds a h (z▸h')⟩
theorem zcT.mono {n n' k:Nat} {en en':LI} {row:List Int} (h:zcT n en k row) (hn:n≤n') (he:∀ r,(zaE en k r).isSome=true→(zaE en' k r).isSome=true):zcT n' en' k row:=by
 obtain ⟨f,s,h1,h2,h3,h4⟩:=h;refine ⟨f,s,h1,h2,by omega,?_⟩;rcases h4 with h4 | ⟨t,h4,t1,t2,t3,t4,t5,t6⟩
 ·exact .inl h4
 ·exact .inr ⟨t,h4,t1,by omega,t3,t4,he _ t5,he _ t6⟩
theorem zcT.len {n k:Nat} {en:LI} {row:List Int} (h:zcT n en k row):row.length=2∨row.length=3:=by
 obtain ⟨f,s,h1,h2,h3,h4 | ⟨t,h4,_⟩⟩:=h
 ·exact .inl (by rw [h4];rfl)
 ·exact .inr (by rw [h4];rfl)
theorem zcT.rng {n k:Nat} {en:LI} {row:List Int} (h:zcT n en k row) {r:Int} (hr:r∈row):1≤r∧r≤n:=by
 obtain ⟨f,s,h1,h2,h3,h4 | ⟨t,h4,t1,t2,_⟩⟩:=h
 ·rw [h4] at hr;simp only [mem_cons,not_mem_nil,or_false] at hr;omega
 ·rw [h4] at hr;simp only [mem_cons,not_mem_nil,or_false] at hr;omega
theorem Wf.ofStep {st:ExS} (w:Wf st) {s:Int} (h:0≤s∧s≤100):Wf { st with step:=s }:=⟨w.ln,w.row,w.pts,h⟩
theorem zml {st:ExS} (h:st.dl=none):st.nm=[]:=by unfold ExS.nm;rw [h];rfl
theorem Wf.ofPaper {st:ExS} (w:Wf st) (hd:st.dl=none) {h:Int}:Wf { st with hs:=st.hs++[h] }:=⟨fun z=>(by rw [show ({ st with hs:=st.hs++[h] }:ExS).dl=st.dl from rfl,hd] at z;cases z),w.row,w.pts,w.stp⟩
theorem Wf.ofReader {st:ExS} (w:Wf st) {r:List Int}:Wf { st with rs:=st.rs++[r] }:=⟨w.ln,fun k hk=>(w.row k hk).mono (by show _≤(st.rs++[r]).length;rw [length_append];omega) fun _ z=>z,w.pts,w.stp⟩
theorem Wf.ofDeal {st:ExS} (w:Wf st) {rows:LI} (h:zaW st.hs st.rs rows=true):Wf { st with dl:=some (rows,[]) }:=by
 obtain ⟨h1,h2,h3⟩:=zbr.mp h;refine ⟨fun _=>h1,fun k hk=>?_,fun k r p z=>(by cases z),w.stp⟩;have hk':k < rows.length:=hk;have hp:=h2 k (by omega);show zcT st.rs.length [] k (rows.getD k []);unfold zcy at hp;simp only [Bool.and_eq_true,decide_eq_true_eq,all_eq_true] at hp;obtain ⟨⟨l2,ha⟩,hlt⟩:=hp
 match hr:rows.getD k [],l2 with
 | [f,s],_ =>
   rw [hr] at ha hlt;have hf:=ha f (by simp);have hs:=ha s (by simp);have hlt':f < s:=hlt;exact ⟨f,s,by omega,hlt',by omega,.inl rfl⟩
theorem Wf.ofEnter {st:ExS} {nm en:LI} (w:Wf st) (hdl:st.dl=some (nm,en)) {k r p:Int} (h:0≤p∧p≤100):Wf { st with dl:=some (nm,en++[[k,r,p]]) }:=by
 have enm:st.nm=nm:=by unfold ExS.nm;rw [hdl];rfl
 have een:st.en=en:=by unfold ExS.en;rw [hdl];rfl
 have hs:∀ j r',(zaE en j r').isSome=true→(zaE (en++[[k,r,p]]) j r').isSome=true:=fun j r' z=>by
  rw [zbR];split
  ·rfl
  ·exact z
 refine ⟨fun _=>by show nm.length=_;rw [← enm];exact w.ln (by rw [hdl];rfl),fun j hj=>?_,fun j r' p' z=>?_,w.stp⟩
 ·have:=w.row j (by rw [enm];exact hj);rw [enm,een] at this;exact this.mono (Nat.le_refl _) (hs j)
 ·have z':zaE (en++[[k,r,p]]) j r'=some p':=z;rw [zbR] at z';split at z'
  ·have:p=p':=Option.some.inj z';omega
  ·exact w.pts j r' p' (by rw [een];exact z')
theorem Wf.ofThird {st:ExS} {nm en:LI} (w:Wf st) (hdl:st.dl=some (nm,en)) {k:Nat} {f s t:Int} (hk:k < nm.length) (hr:nm.getD k []=[f,s]) (ht:1≤t∧t≤st.rs.length) (hn:t∉[f,s]) (hf:(zaE en k f).isSome=true) (hs:(zaE en k s).isSome=true):Wf { st with dl:=some (nm.set k (nm.getD k []++[t]),en) }:=by
 have enm:st.nm=nm:=by unfold ExS.nm;rw [hdl];rfl
 have een:st.en=en:=by unfold ExS.en;rw [hdl];rfl
 have ls:(nm.set k (nm.getD k []++[t])).length=nm.length:=length_set;refine ⟨fun _=>by show (nm.set k _).length=_;rw [ls,← enm];exact w.ln (by rw [hdl];rfl),fun j hj=>?_,fun j r' p' z=>w.pts j r' p' (by rw [een];exact z),w.stp⟩;have hj':j < nm.length:=by rw [← ls];exact hj
 have:=w.row j (by rw [enm];exact hj');rw [enm,een] at this;show zcT st.rs.length en j ((nm.set k (nm.getD k []++[t])).getD j []);rw [zbo hk]
 by_cases z:j=k
 ·subst z;rw [if_pos rfl,hr];rw [hr] at this;obtain ⟨f',s',h1,h2,h3,h4 | ⟨t',h4,_⟩⟩:=this
  ·injection h4 with a b;injection b with b c;subst a b;simp only [mem_cons,not_mem_nil,or_false,not_or] at hn;exact ⟨f,s,h1,h2,h3,.inr ⟨t,rfl,ht.1,ht.2,hn.1,hn.2,hf,hs⟩⟩
  ·simp at h4
 ·rw [if_neg z];exact this
theorem ExIn.N (E:ExIn C H e st kvs):ExNd e:=nd_iff.mp E.nd
theorem ExIn.at (E:ExIn C H e st kvs):ExAt C H e.x (fun b=>b∈e.own) st:=⟨e,kvs,rfl,fun _=>Iff.rfl,E⟩
theorem za6 {b p:Addr} {l:List Addr} (h:p∉l) (hb:b∈l):b≠p:=fun z=>h (z▸hb)
theorem ExIn.ip (E:ExIn C H e st kvs) {i:Nat} (hi:i < st.rs.length):e.ps.getD i 0∈e.ps:=zb0 (by have:=E.lp;omega)
theorem ExIn.iq (E:ExIn C H e st kvs) {i:Nat} (hi:i < st.nm.length):e.qs.getD i 0∈e.qs:=zb0 (by have:=E.lq;omega)
theorem ExIn.is (E:ExIn C H e st kvs) {i:Nat} (hi:i < st.nm.length):e.ds.getD i 0∈e.ds:=zb0 (by have:=E.ld;omega)
theorem ExIn.setStep (E:ExIn C H e st kvs) {s:Int} (b:But e.x H H') (h:H' e.x=some (.ins C e.dx (putF "widest_step" (.int s) (exFs (.ref e.a) (.ref e.b) (.int st.step) (.bl st.dl.isSome) (.ref e.c) (.ref e.d))))) (wf:0≤s∧s≤100):ExIn C H' e { st with step:=s } kvs:=by
 have N:=E.N;rw [exFs_ps] at h;exact ⟨h,by rw [b _ N.xa.symm];exact E.ha,by rw [b _ N.xb.symm];exact E.hb,by rw [b _ N.xc.symm];exact E.hc,by rw [b _ N.xd.symm];exact E.hd,E.lp,E.lq,E.ld,fun i hi=>by rw [b _ (za6 N.xp (E.ip hi))];exact E.rp i hi,fun i hi=>by rw [b _ (za6 N.xq (E.iq hi))];exact E.rq i hi,fun i hi=>by rw [b _ (za6 N.xs (E.is hi))];exact E.rd i hi,E.vk,E.sk,E.lk,E.nd,E.wf.ofStep wf⟩
theorem ExIn.paper (E:ExIn C H e st kvs) (hd:st.dl=none) {h:Int} (b:But e.a H H') (h1:H' e.a=some (.lst (st.hs.map V.int++[.int h]))):ExIn C H' e { st with hs:=st.hs++[h] } kvs:=by
 have N:=E.N;exact ⟨by rw [b _ N.xa];exact E.ob,by rw [h1,map_append];rfl,by rw [b _ N.ab.symm];exact E.hb,by rw [b _ N.ac.symm];exact E.hc,by rw [b _ N.ad.symm];exact E.hd,E.lp,E.lq,E.ld,fun i hi=>by rw [b _ (za6 N.ap (E.ip hi))];exact E.rp i hi,fun i hi=>by rw [b _ (za6 N.aq (E.iq hi))];exact E.rq i hi,fun i hi=>by rw [b _ (za6 N.as (E.is hi))];exact E.rd i hi,E.vk,E.sk,E.lk,E.nd,E.wf.ofPaper hd⟩
theorem ExIn.reader (E:ExIn C H e st kvs) {row:List Int} {r:Addr} (hr:r∉e.own) (er:H r=some (.lst (row.map V.int))) (b:But e.b H H') (h1:H' e.b=some (.lst (e.ps.map V.ref++[.ref r]))):ExIn C H' { e with ps:=e.ps++[r] } { st with rs:=st.rs++[row] } kvs:=by
 have N:=E.N;have lp:=E.lp;have nrb:r≠e.b:=fun z=>hr (z▸own_b);refine ⟨by rw [b _ N.xb];exact E.ob,by rw [b _ N.ab];exact E.ha,by rw [h1,map_append];rfl,by rw [b _ N.bc.symm];exact E.hc,by rw [b _ N.bd.symm];exact E.hd,by show (e.ps++[r]).length=(st.rs++[row]).length;rw [length_append,length_append,lp];rfl,E.lq,E.ld,fun i hi=>?_,fun i hi=>by rw [b _ (za6 N.bq (E.iq hi))];exact E.rq i hi,fun i hi=>by rw [b _ (za6 N.bs (E.is hi))];exact E.rd i hi,E.vk,E.sk,E.lk,?_,E.wf.ofReader⟩
 ·have hi':i < (st.rs++[row]).length:=hi;rw [length_append,length_singleton] at hi';show H' ((e.ps++[r]).getD i 0)=some (.lst (((st.rs++[row]).getD i []).map V.int))
  by_cases z:i < st.rs.length
  ·rw [zaB (by omega),zaB z,b _ (za6 N.bp (E.ip z))];exact E.rp i z
  ·have z':i=st.rs.length:=by omega
   subst z';rw [zaC,← lp,zaC,b _ nrb];exact er
 ·refine nd_iff.mpr ⟨N.xa,N.xb,N.xc,N.xd,?_,N.xq,N.xs,N.ab,N.ac,N.ad,?_,N.aq,N.as,N.bc,N.bd,?_,N.bq,N.bs,N.cd,?_,N.cq,N.cs,?_,N.dq,N.ds,?_,N.nq,N.nds,?_,?_,N.qds⟩
  ·exact fun h=>(mem_append.mp h).elim N.xp fun h=>hr (mem_singleton.mp h▸own_x)
  ·exact fun h=>(mem_append.mp h).elim N.ap fun h=>hr (mem_singleton.mp h▸own_a)
  ·exact fun h=>(mem_append.mp h).elim N.bp fun h=>hr (mem_singleton.mp h▸own_b)
  ·exact fun h=>(mem_append.mp h).elim N.cp fun h=>hr (mem_singleton.mp h▸own_c)
  ·exact fun h=>(mem_append.mp h).elim N.dp fun h=>hr (mem_singleton.mp h▸own_d)
  ·exact nodup_append.mpr ⟨N.np,by simp,fun c hc d hd z=>hr (by rw [← mem_singleton.mp hd,← z];exact zla hc)⟩
  ·exact fun c hc=>(mem_append.mp hc).elim (N.pq c) fun h z=>hr (by rw [← mem_singleton.mp h];exact zlb z)
  ·exact fun c hc=>(mem_append.mp hc).elim (N.pds c) fun h z=>hr (by rw [← mem_singleton.mp h];exact zh8 z)
theorem ziL {r b:Addr} (h:b∈({ e with ps:=e.ps++[r] }:ExAd).own):b∈e.own∨b=r:=by
 unfold ExAd.own at h ⊢;simp only [mem_cons,mem_append,not_mem_nil,or_false] at h ⊢;rcases h with h | h | h | h | h | (h | h) | h | h <;> simp [h]
theorem zfZ (E:ExIn C H e st kvs) {b:Addr} (h:H b=none):b≠e.x∧b≠e.a∧b≠e.b∧b≠e.c∧b≠e.d∧b∉e.ps∧b∉e.qs∧b∉e.ds:=by
 have n:=E.new h;exact ⟨fun z=>n (z▸own_x),fun z=>n (z▸own_a),fun z=>n (z▸own_b),fun z=>n (z▸own_c),fun z=>n (z▸own_d),fun z=>n (zla z),fun z=>n (zlb z),fun z=>n (zh8 z)⟩
theorem ExIn.deal {p q:Addr} {rows:LI} {ds:List Addr} {H5:Hp} (E:ExIn C H e st kvs) (hr:zaW st.hs st.rs rows=true) (R:RowsAt H p rows H1) (k:∀ b o,H1 b=some o→b≠e.x→H5 b=some o)
  (hx:H5 e.x=some (.ins C e.dx (exFs (.ref e.a) (.ref e.b) (.int st.step) (.bl true) (.ref p) (.ref q)))) (hq:H5 q=some (.lst (ds.map V.ref))) (nq:H1 q=none) (ld:ds.length=rows.length) (nd:ds.Nodup)
  (hd:∀ i,i < rows.length→H5 (ds.getD i 0)=some (.dK [])∧H1 (ds.getD i 0)=none∧ds.getD i 0≠q) :
  ∃ e',e'.x=e.x∧ExIn C H5 e' { st with dl:=some (rows,[]) } (rows.map fun _=>[])∧∀ b∈e'.own,b∈e.own∨H b=none:=by
 obtain ⟨s,np,qs,hp,lq,ndq,hrow⟩:=R;have N:=E.N;have hf:∀ {b o},H b=some o→b≠e.x→H5 b=some o:=fun h n=>k _ _ (s _ _ h) n;have mq:∀ b∈qs,H b=none∧b≠p∧∃ o,H1 b=some o:=fun b hb=>by
  obtain ⟨i,hi,ei⟩:=L2.mem_getD (d:=0) hb;obtain ⟨h1,h2,h3⟩:=hrow i (by omega);rw [ei] at h1 h2 h3;exact ⟨h2,h3,_,h1⟩
 have md:∀ b∈ds,H1 b=none∧b≠q:=fun b hb=>by
  obtain ⟨i,hi,ei⟩:=L2.mem_getD (d:=0) hb;obtain ⟨h1,h2,h3⟩:=hd i (by omega);rw [ei] at h1 h2 h3;exact ⟨h2,h3⟩
 have nqH:H q=none:=s.free nq;have P:=zfZ E np;have Q:=zfZ E nqH;have D:=fun {b} hb=>zfZ E (s.free (md b hb).1);have M:=fun {b} hb=>zfZ E (mq b hb).1;refine ⟨{ e with c:=p,d:=q,qs:=qs,ds:=ds },rfl,⟨hx,hf E.ha N.xa.symm,hf E.hb N.xb.symm,k _ _ hp P.1,hq,E.lp,lq,ld,fun i hi=>hf (E.rp i hi) (za6 N.xp (E.ip hi)),fun i hi=>?_,fun i hi=>?_,fun i hi r=>?_,fun i hi=>?_,by show (rows.map fun _=>_).length=rows.length;rw [length_map],nd_iff.mpr ?_,E.wf.ofDeal hr⟩,?_⟩
 ·exact k _ _ (hrow i hi).1 (M (zb0 (show i < qs.length by rw [lq];exact hi))).1
 ·have hi':i < rows.length:=hi;have e0:(rows.map fun _=>([]:List (Key×V))).getD i []=[]:=by rw [getD_eq_getElem?_getD,getElem?_map,getElem?_eq_getElem hi'];rfl
  rw [e0];exact (hd i hi).1
 ·have hi':i < rows.length:=hi;have e0:(rows.map fun _=>([]:List (Key×V))).getD i []=[]:=by rw [getD_eq_getElem?_getD,getElem?_map,getElem?_eq_getElem hi'];rfl
  rw [e0];rfl
 ·have hi':i < rows.length:=hi;have e0:(rows.map fun _=>([]:List (Key×V))).getD i []=[]:=by rw [getD_eq_getElem?_getD,getElem?_map,getElem?_eq_getElem hi'];rfl
  rw [e0];exact zero_le _
 ·exact ⟨N.xa,N.xb,P.1.symm,Q.1.symm,N.xp,fun h=>(M h).1 rfl,fun h=>(D h).1 rfl,N.ab,P.2.1.symm,Q.2.1.symm,N.ap,fun h=>(M h).2.1 rfl,fun h=>(D h).2.1 rfl,P.2.2.1.symm,Q.2.2.1.symm,N.bp,fun h=>(M h).2.2.1 rfl,fun h=>(D h).2.2.1 rfl,
   fun z=>(by rw [← show p=q from z,hp] at nq;cases nq),P.2.2.2.2.2.1,fun h=>(mq _ h).2.1 rfl,fun h=>(by have:=(md _ h).1;rw [hp] at this;cases this),Q.2.2.2.2.2.1,fun h=>(by obtain ⟨o,z⟩:=(mq _ h).2.2;rw [nq] at z;cases z),fun h=>(md _ h).2 rfl,N.np,ndq,nd,
   fun b h h'=>(M h').2.2.2.2.2.1 h,fun b h h'=>(D h').2.2.2.2.2.1 h,fun b h h'=>(by obtain ⟨o,z⟩:=(mq _ h).2.2;rw [(md _ h').1] at z;cases z)⟩
 ·intro b hb;unfold ExAd.own at hb;simp only [mem_cons,mem_append] at hb;rcases hb with h | h | h | h | h | h | h | h
  ·exact .inl (h▸own_x)
  ·exact .inl (h▸own_a)
  ·exact .inl (h▸own_b)
  ·exact .inr (h▸np)
  ·exact .inr (h▸nqH)
  ·exact .inl (zla h)
  ·exact .inr (mq _ h).1
  ·exact .inr (s.free (md _ h).1)
theorem zbn {α:Type} {xs:List α} {k i:Nat} {v d:α} (hk:k < xs.length):(xs.set k v).getD i d=if i=k then v else xs.getD i d:=by
 rw [getD_eq_getElem?_getD,List.getElem?_set]
 by_cases h:i=k
 ·subst h;rw [if_pos rfl,if_pos rfl,if_pos hk];rfl
 ·rw [if_neg (fun z=>h z.symm),if_neg h,getD_eq_getElem?_getD]
theorem zcG {ps:List Addr} (nd:ps.Nodup) {i j:Nat} (hi:i < ps.length) (hj:j < ps.length) (h:ps.getD i 0=ps.getD j 0):i=j:=by
 rw [getD_eq_getElem?_getD,getD_eq_getElem?_getD,getElem?_eq_getElem hi,getElem?_eq_getElem hj] at h;exact (getElem_inj nd).mp h
theorem ExIn.enter {nm en:LI} {k:Nat} {r pts:Int} (E:ExIn C H e st kvs) (hdl:st.dl=some (nm,en)) (hk:k < nm.length) (hpt:0≤pts∧pts≤100) (b:But (e.ds.getD k 0) H H')
  (h1:H' (e.ds.getD k 0)=some (.dK (putK (kvs.getD k []) (Sum.inl r:Key) (.int pts)))) :
  ExIn C H' e { st with dl:=some (nm,en++[[(k:Int)+1,r,pts]]) } (kvs.set k (putK (kvs.getD k []) (Sum.inl r:Key) (.int pts))):=by
 have N:=E.N;have enm:st.nm=nm:=by unfold ExS.nm;rw [hdl];rfl
 have een:st.en=en:=by unfold ExS.en;rw [hdl];rfl
 have ld:=E.ld;have lk:=E.lk;rw [enm] at ld lk;have hm:e.ds.getD k 0∈e.ds:=zb0 (by omega);have ne:∀ {l},l∉e.ds→l≠e.ds.getD k 0:=fun h z=>h (z▸hm);have hs:st.dl.isSome=true:=by rw [hdl];rfl
 have ob:=E.ob;rw [hs] at ob;refine ⟨by rw [b _ (ne N.xs)];exact ob,by rw [b _ (ne N.as)];exact E.ha,by rw [b _ (ne N.bs)];exact E.hb,by rw [b _ (ne N.cs)];exact E.hc,by rw [b _ (ne N.ds)];exact E.hd,E.lp,by have:=E.lq;rw [enm] at this;exact this,ld,fun i hi=>?_,fun i hi=>?_,fun i hi=>?_,fun i hi r'=>?_,fun i hi=>?_,by rw [length_set];exact lk,E.nd,E.wf.ofEnter hdl hpt⟩
 ·rw [b _ (ne (N.pds _ (E.ip hi)))];exact E.rp i hi
 ·have hi':i < st.nm.length:=by rw [enm];exact hi
  have:=E.rq i hi';rw [enm] at this;rw [b _ (ne (N.qds _ (E.iq hi')))];exact this
 ·have hi':i < nm.length:=hi;rw [zbn (by omega)]
  by_cases z:i=k
  ·subst z;rw [if_pos rfl];exact h1
  ·rw [if_neg z,b _ (fun w=>z (zcG N.nds (by omega) (by omega) w))];exact E.rd i (by rw [enm];exact hi)
 ·have hi':i < nm.length:=hi;have hv:=E.vk i (by rw [enm];exact hi) r';rw [een] at hv;show valV _ _=(zaE (en++[[(k:Int)+1,r,pts]]) i r').map V.int;rw [zbn (by omega),zbR]
  by_cases z:i=k
  ·subst z;rw [if_pos rfl,zkH]
   by_cases zr:r'=r
   ·subst zr;rw [if_pos rfl,if_pos ⟨rfl,rfl⟩];rfl
   ·rw [if_neg (fun w=>zr (Sum.inl.inj w)),if_neg (fun w=>zr w.2.symm)];exact hv
  ·rw [if_neg z,if_neg (fun w=>z (by have h2:(k:Int)+1=(i:Int)+1:=w.1;omega))];exact hv
 ·have hi':i < nm.length:=hi;have hv:=E.sk i (by rw [enm];exact hi);rw [een] at hv;show _≤(en++[_]).length;rw [zbn (by omega),length_append,length_singleton]
  by_cases z:i=k
  ·subst z;rw [if_pos rfl];have:=zdv (kvs.getD i []) (Sum.inl r:Key) (.int pts);omega
  ·rw [if_neg z];omega
theorem ExIn.third {nm en:LI} {k:Nat} {t:Int} (E:ExIn C H e st kvs) (hdl:st.dl=some (nm,en)) (hk:k < nm.length) {f s:Int} (hrow:nm.getD k []=[f,s]) (ht:1≤t∧t≤st.rs.length) (hn:t∉[f,s]) (hf:(zaE en k f).isSome=true) (hs':(zaE en k s).isSome=true) (b:But (e.qs.getD k 0) H H')
  (h1:H' (e.qs.getD k 0)=some (.lst ((nm.getD k []).map V.int++[.int t]))) :
  ExIn C H' e { st with dl:=some (nm.set k (nm.getD k []++[t]),en) } kvs:=by
 have N:=E.N;have enm:st.nm=nm:=by unfold ExS.nm;rw [hdl];rfl
 have een:st.en=en:=by unfold ExS.en;rw [hdl];rfl
 have lq:=E.lq;have lk:=E.lk;rw [enm] at lq lk;have hm:e.qs.getD k 0∈e.qs:=zb0 (by omega);have ne:∀ {l},l∉e.qs→l≠e.qs.getD k 0:=fun h z=>h (z▸hm);have hs:st.dl.isSome=true:=by rw [hdl];rfl
 have ob:=E.ob;rw [hs] at ob;have ls:(nm.set k (nm.getD k []++[t])).length=nm.length:=length_set;refine ⟨by rw [b _ (ne N.xq)];exact ob,by rw [b _ (ne N.aq)];exact E.ha,by rw [b _ (ne N.bq)];exact E.hb,by rw [b _ (ne N.cq)];exact E.hc,by rw [b _ (ne N.dq)];exact E.hd,E.lp,lq.trans ls.symm,by have:=E.ld;rw [enm] at this;exact this.trans ls.symm,fun i hi=>?_,fun i hi=>?_,fun i hi=>?_,fun i hi r'=>?_,fun i hi=>?_,lk.trans ls.symm,E.nd,E.wf.ofThird hdl hk hrow ht hn hf hs'⟩
 ·rw [b _ (ne (N.pq _ (E.ip hi)))];exact E.rp i hi
 ·have hi':i < nm.length:=by rw [← ls];exact hi
  show H' _=some (.lst (((nm.set k (nm.getD k []++[t])).getD i []).map V.int));rw [zbn hk]
  by_cases z:i=k
  ·subst z;rw [if_pos rfl,h1,map_append];rfl
  ·rw [if_neg z,b _ (fun w=>z (zcG N.nq (by omega) (by omega) w))];have:=E.rq i (by rw [enm];exact hi');rw [enm] at this;exact this
 ·have hi':i < nm.length:=by rw [← ls];exact hi
  rw [b _ (fun w=>N.qds _ hm (by rw [← w];exact E.is (by rw [enm];exact hi')))];exact E.rd i (by rw [enm];exact hi')
 ·have hi':i < nm.length:=by rw [← ls];exact hi
  have hv:=E.vk i (by rw [enm];exact hi') r';rw [een] at hv;exact hv
 ·have hi':i < nm.length:=by rw [← ls];exact hi
  have hv:=E.sk i (by rw [enm];exact hi');rw [een] at hv;exact hv
end
theorem Wf.n10 {st:ExS} (w:Wf st) (B:InB st.hs st.rs):st.nm.length≤10:=by
 cases h:st.dl with
 | none=>rw [zml h];exact zero_le _
 | some d=>rw [w.ln (by rw [h];rfl)];exact B.lp
theorem ExAt.wf {C x:Addr} {H:Hp} {F:Addr→Prop} {st:ExS} (E:ExAt C H x F st):Wf st:=by
 obtain ⟨e,kvs,_,_,I⟩:=E;exact I.wf
def zb1 (nm en:LI) (k:Nat):List (Option Int):=(nm.getD k []).map (zaE en k)
def zaF (nm en:LI) (k:Nat):List Int:=(nm.getD k []).filter fun r=>(zaE en k r).isNone
def dueB (nm en:LI):LI:=(List.range nm.length).flatMap fun k=>(zaF nm en k).map fun r=>[(k:Int)+1,r]
def dueS (st:ExS):LI:=dueB st.nm st.en
def ptsOf (nm en:LI) (k:Nat):List Int:=(nm.getD k []).map fun r=>(zaE en k r).getD 0
def zf0 (st:ExS):List Int:=za1 st.rs st.nm
def MarkB (xs:List Int) (s:Int):List Int:=if xs.length=2 then zfn (xs.getD 0 0) (xs.getD 1 0) s else [mid3 (xs.getD 0 0) (xs.getD 1 0) (xs.getD 2 0),1]
def zbM (nm en:LI) (step:Int) (k:Nat):Option (Int×Int×List (List Int)):=if zaF nm en k=[] then some ((MarkB (ptsOf nm en k) step).getD 0 0,(MarkB (ptsOf nm en k) step).getD 1 0,((nm.getD k []).zip (ptsOf nm en k)).map fun p=>[p.1,p.2]) else none
def zcO (st:ExS):List (Option (Int×Int×List (List Int))):=match st.dl with
 | none=>(List.range st.hs.length).map fun _=>none
 | some (nm,en)=>(List.range st.hs.length).map (zbM nm en st.step)
abbrev Mk3:=Option (Int×Int×List (List Int))
def zeU (B:Hp) (v:V) (m:Mk3) (H:Hp):Prop:=match m with
 | none=>v=.non
 | some (t,b,rows)=>∃ (q r:Addr) (ps:List Addr),v=.ref q∧B q=none∧B r=none∧H q=some (.lst [.int t,.int b,.ref r])∧H r=some (.lst (ps.map V.ref))∧ps.length=rows.length∧∀ j,j < rows.length→B (ps.getD j 0)=none∧H (ps.getD j 0)=some (.lst ((rows.getD j []).map V.int))
structure zeV (B:Hp) (p:Addr) (ms:List Mk3) (H:Hp):Prop where
 same:Same B H
 new:B p=none
 vals:∃ vs:List V,H p=some (.lst vs)∧vs.length=ms.length∧∀ i,i < ms.length→zeU B (vs.getD i .non) (ms.getD i none) H
theorem zc6 (nm en:LI) (i:Nat) (h:i < nm.length):((List.range (i+1)).flatMap fun k=>(zaF nm en k).map fun r=>[(k:Int)+1,r])=((List.range i).flatMap fun k=>(zaF nm en k).map fun r=>[(k:Int)+1,r])++(zaF nm en i).map fun r=>[(i:Int)+1,r]:=by
 rw [range_succ,List.flatMap_append,List.flatMap_singleton]
theorem zhn (nm en:LI) (k:Nat):(zaF nm en k).length≤(nm.getD k []).length:=length_filter_le _ _
theorem zf1 (nm en:LI) (k:Nat):(ptsOf nm en k).length=(nm.getD k []).length:=by unfold ptsOf;rw [length_map]
theorem zcH {nm en:LI} {k:Nat} (h:zaF nm en k=[]) {r:Int} (hr:r∈nm.getD k []):∃ p,zaE en k r=some p:=by
 cases e:zaE en k r with
 | some p=>exact ⟨p,rfl⟩
 | none =>
   have:r∈zaF nm en k:=mem_filter.mpr ⟨hr,by rw [e];rfl⟩;rw [h] at this
   cases this
theorem Wf.ptsOf {st:ExS} (w:Wf st) {k:Nat} {p:Int} (h:p∈ptsOf st.nm st.en k):0≤p∧p≤100:=by
 unfold Prf.ptsOf at h;obtain ⟨r,hr,rfl⟩:=mem_map.mp h
 cases e:zaE st.en k r with
 | none=>exact ⟨by decide,by decide⟩
 | some p=>exact w.pts k r p e
def zdx (B:Hp) (p:Addr) (v:V) (m:Mk3) (H:Hp):Prop:=match m with
 | none=>v=.non
 | some (t,b,rows)=>∃ (q r:Addr) (ps:List Addr),v=.ref q∧(B q=none∧q≠p)∧(B r=none∧r≠p)∧H q=some (.lst [.int t,.int b,.ref r])∧H r=some (.lst (ps.map V.ref))∧ps.length=rows.length∧∀ j,j < rows.length→(B (ps.getD j 0)=none∧ps.getD j 0≠p)∧H (ps.getD j 0)=some (.lst ((rows.getD j []).map V.int))
theorem zdx.keep {B H1 H2:Hp} {p:Addr} {v:V} {m:Mk3} (h:zdx B p v m H1) (k:∀ b o,H1 b=some o→b≠p→H2 b=some o):zdx B p v m H2:=by
 match m,h with
 | none,h=>exact h
 | some (t,b,rows),⟨q,r,ps,h1,h2,h3,h4,h5,h6,h7⟩=>exact ⟨q,r,ps,h1,h2,h3,k _ _ h4 h2.2,k _ _ h5 h3.2,h6,fun j hj=>⟨(h7 j hj).1,k _ _ (h7 j hj).2 (h7 j hj).1.2⟩⟩
theorem zdx.is {B H1:Hp} {p:Addr} {v:V} {m:Mk3} (h:zdx B p v m H1):zeU B v m H1:=by
 match m,h with
 | none,h=>exact h
 | some (t,b,rows),⟨q,r,ps,h1,h2,h3,h4,h5,h6,h7⟩=>exact ⟨q,r,ps,h1,h2.1,h3.1,h4,h5,h6,fun j hj=>⟨(h7 j hj).1.1,(h7 j hj).2⟩⟩
theorem zeU.new {B H0 H1:Hp} {p:Addr} {v:V} {m:Mk3} {ys:List V} (h:zeU H0 v m H1) (s:Same B H0) (hp:H0 p=some (.lst ys)):zdx B p v m H1:=by
 match m,h with
 | none,h=>exact h
 | some (t,b,rows),⟨q,r,ps,h1,h2,h3,h4,h5,h6,h7⟩=>exact ⟨q,r,ps,h1,⟨s.free h2,(zaj hp h2).symm⟩,⟨s.free h3,(zaj hp h3).symm⟩,h4,h5,h6,fun j hj=>⟨⟨s.free (h7 j hj).1,(zaj hp (h7 j hj).1).symm⟩,(h7 j hj).2⟩⟩
end Prf
namespace L2
open PySem PySem.Spec PyProof.Rows
section
variable {X:Cx} {K:PySem.W.Frag}
def znH (K:PySem.W.Frag):List V→Hp→VK→Prop:=fun xs H Q=>∃ (a:Addr) (ns:List Int),xs=[.ref a]∧SqL K H a (ns.map V.int)∧0 < ns.length∧∀ m∈ns,(∀ x∈ns,x≤m)→Q (.int m) H
theorem zeW (hK:X.K=K) (hc:X.calm=true):zdj X (.builtin "max") (znH K):=by
 subst hK;intro pins s σ H xs us Q I r h;obtain ⟨a,ns,rfl,hl,hz,q⟩:=h;obtain ⟨u,rfl,ru⟩:=r.one
 cases ru
 obtain ⟨its,rv,pl,_⟩:=I.list hl;have hi:=intsAre_of rv;have ha:AllInts its.toArray:=hi.allInts;obtain ⟨zs,ez⟩:=ha.items;have en:zs.toList.map (·.1)=ns:=by
  have h1:=nums_intItems zs;rw [← ez] at h1;rw [← h1];exact hi.numsOf
 have hs:0 < zs.size:=by
  have:zs.size=ns.length:=by rw [← en];simp
  omega
 refine max_intList (xs:=zs) (I.ok.hd hc) (by rw [← ez];exact pl.isList) hs fun v h' tk hv k=>?_;obtain ⟨t,rfl⟩:=intItems_at hv;obtain ⟨h1,h2⟩:=argBest_gt (numAt zs) (zs.size-1);refine ⟨.int _,H,I.kept k,⟨t,rfl⟩,q _ ?_ fun x hx=>?_⟩
 ·rw [numAt_eq,← en];exact getD_mem (by rw [length_map,Array.length_toList];omega)
 ·rw [← en] at hx;obtain ⟨j,hj,ej⟩:=mem_getD (d:=0) hx;rw [← ej];rw [length_map,Array.length_toList] at hj;rw [← numAt_eq];exact h2 j (by omega)
variable {H:Hp} {Q:VK} {a:Addr} {ns:List Int}
theorem zeX (h:SqL K H a (ns.map V.int)) (hz:0 < ns.length) (q:∀ m∈ns,(∀ x∈ns,x≤m)→Q (.int m) H):znH K [.ref a] H Q:=⟨a,ns,rfl,h,hz,q⟩
end
end L2
namespace Prf
open PySem PySem.Spec PyProof.Rows L2
theorem zld (gs:List (Option Int)):inV .non (gs.map encO)=decide (none∈gs):=by
 unfold inV
 induction gs with
 | nil=>rfl
 | cons g gs ih =>
   rw [map_cons,any_cons,ih]
   cases g with
   | none=>simp [encO,eqV]
   | some i=>simp [encO,eqV]
theorem zle (gs:List (Option Int)):(gs.map encO).all flatV=true:=all_eq_true.mpr fun v hv=>by
 obtain ⟨g,_,rfl⟩:=mem_map.mp hv
 cases g <;> rfl
theorem zot {K:PySem.W.Frag} {H:Hp} {Q:VK} {a:Addr} {gs:List (Option Int)} (h:SqL K H a (gs.map encO)) (q:Q (.bl (decide (none∈gs))) H):rIn K false .non (.ref a) H Q :=
 ⟨a,_,rfl,.inl h,rfl,zle gs,by show Q (.bl (inV .non (gs.map encO))) H;rw [zld];exact q⟩
theorem zmm {gs:List (Option Int)} {k:Int} (h0:0≤k) (h1:k < gs.length):atI (gs.map encO) k=some (encO (gs.getD k.toNat none)):=by
 obtain ⟨n,rfl⟩:=Int.eq_ofNat_of_zero_le h0;have hn:n < gs.length:=by omega
 refine zfQ ?_;rw [getElem?_map,getD_eq_getElem?_getD,Int.toNat_natCast,getElem?_eq_getElem hn];rfl
theorem zmn (g:Option Int):decide (encO g=V.non)=g.isNone:=by cases g <;> rfl
theorem zc7 (nm en:LI) (k:Nat):(zb1 nm en k).length=(nm.getD k []).length:=by unfold zb1;rw [length_map]
theorem zia {nm en:LI} {k j:Nat} (h:j < (nm.getD k []).length):(zb1 nm en k).getD j none=zaE en k ((nm.getD k []).getD j 0):=by
 unfold zb1;rw [getD_eq_getElem?_getD,getElem?_map,getElem?_eq_getElem h];rw [getD_eq_getElem?_getD (l:=nm.getD k []),getElem?_eq_getElem h];rfl
theorem zd5 {nm en:LI} {k:Nat}:none∈zb1 nm en k↔zaF nm en k≠[]:=by
 unfold zb1 zaF;constructor
 ·intro h z;obtain ⟨r,hr,e⟩:=mem_map.mp h;have:r∈(nm.getD k []).filter fun r=>(zaE en k r).isNone:=mem_filter.mpr ⟨hr,by rw [e];rfl⟩;rw [z] at this
  cases this
 ·intro h;obtain ⟨r,hr⟩:=List.exists_mem_of_ne_nil _ h;obtain ⟨h1,h2⟩:=mem_filter.mp hr;exact mem_map.mpr ⟨r,h1,Option.isNone_iff_eq_none.mp h2⟩
theorem zgH {nm en:LI} {k:Nat} (h:zaF nm en k=[]):(zb1 nm en k).map encO=(ptsOf nm en k).map V.int:=by
 unfold zb1 ptsOf;rw [map_map,map_map];refine map_congr_left fun r hr=>?_;obtain ⟨p,hp⟩:=zcH h hr;show encO (zaE en k r)=V.int ((zaE en k r).getD 0);rw [hp];rfl
theorem zj9 (nm en:LI) (k:Nat):((List.range (zb1 nm en k).length).filter fun j=>((zb1 nm en k).getD j none).isNone).map (fun j=>(nm.getD k []).getD j 0)=zaF nm en k:=by
 rw [zc7];unfold zaF
 conv=>rhs;rw [← zct (nm.getD k []) 0,filter_map]
 congr 1
 refine filter_congr fun j hj=>?_;rw [zia (mem_range.mp hj)];rfl
theorem zcT.sorted {n k:Nat} {nm en:LI} (h:zcT n en k (nm.getD k [])):(zaF nm en k).Pairwise (·≤·):=by
 unfold zaF;obtain ⟨f,s,h1,h2,h3,h4 | ⟨t,h4,_,_,_,_,t5,t6⟩⟩:=h
 ·rw [h4];refine List.Pairwise.filter _ ?_;simp;omega
 ·rw [h4];have e1:(zaE en k f).isNone=false:=by rw [← Option.not_isSome,t5];rfl
  have e2:(zaE en k s).isNone=false:=by rw [← Option.not_isSome,t6];rfl
  rw [filter_cons,e1,filter_cons,e2];refine List.Pairwise.filter _ ?_;simp
theorem zcT.nodup {n k:Nat} {en:LI} {row:List Int} (h:zcT n en k row):row.Nodup:=by
 obtain ⟨f,s,h1,h2,h3,h4 | ⟨t,h4,_,_,t1,t2,_⟩⟩:=h
 ·rw [h4];simp;omega
 ·rw [h4];simp;exact ⟨⟨by omega,fun z=>t1 z.symm⟩,fun z=>t2 z.symm⟩
theorem zka {xs ys:List Int} (p:xs.Perm ys) (h1:xs.Pairwise (·≤·)) (h2:ys.Pairwise (·≤·)):xs=ys:=List.Perm.eq_of_pairwise (le:=(·≤·)) (fun a b _ _=>Int.le_antisymm) h1 h2 p
theorem zkb {nm en:LI} {x:List Int} (h:x∈dueB nm en):∃ k r,k < nm.length∧r∈zaF nm en k∧x=[(k:Int)+1,r]:=by
 unfold dueB at h;obtain ⟨k,hk,h2⟩:=List.mem_flatMap.mp h;obtain ⟨r,hr,e⟩:=mem_map.mp h2;exact ⟨k,r,mem_range.mp hk,hr,e.symm⟩
theorem zlx {st:ExS} (w:Wf st):(dueB st.nm st.en).length≤3 * st.nm.length:=by
 have key:∀ i,i≤st.nm.length→((List.range i).flatMap fun k=>(zaF st.nm st.en k).map fun r=>[(k:Int)+1,r]).length≤3 * i:=fun i=>by
  induction i with
  | zero=>intro _;simp
  | succ i ih =>
    intro hi;rw [zc6 _ _ _ (by omega),length_append,length_map];have h1:=ih (by omega);have h2:=zhn st.nm st.en i;have h3:=(w.row i (by omega)).len;omega
 exact key st.nm.length (Nat.le_refl _)
theorem _root_.L2.RowsAt.mono {B H H':Hp} {p:Addr} {rs:LI} (R:RowsAt B p rs H) (s:Same H H'):RowsAt B p rs H':=by
 obtain ⟨a,b,ps,h1,h2,h3,h4⟩:=R;exact ⟨a.trans s,b,ps,s _ _ h1,h2,h3,fun i hi=>⟨s _ _ (h4 i hi).1,(h4 i hi).2⟩⟩
structure LdA where
 a:Addr
 b:Addr
 c:Addr
 d:Addr
 ps:List Addr
 qs:List Addr
 es:List Addr
def LdA.all (l:LdA):List Addr:=l.a::l.b::l.c::l.d::(l.ps++(l.qs++l.es))
structure Led (H:Hp) (l:LdA) (hs:List Int) (rs nm en:LI):Prop where
 ha:H l.a=some (.lst (hs.map V.int))
 hb:H l.b=some (.lst (l.ps.map V.ref))
 hc:H l.c=some (.lst (l.qs.map V.ref))
 hd:H l.d=some (.lst (l.es.map V.ref))
 lp:l.ps.length=rs.length
 lq:l.qs.length=nm.length
 le:l.es.length=en.length
 rp:∀ i,i < rs.length→H (l.ps.getD i 0)=some (.lst ((rs.getD i []).map V.int))
 rq:∀ i,i < nm.length→H (l.qs.getD i 0)=some (.lst ((nm.getD i []).map V.int))
 re:∀ i,i < en.length→H (l.es.getD i 0)=some (.lst ((en.getD i []).map V.int))
 nd:l.all.Nodup
section
variable {H H':Hp} {l:LdA} {hs:List Int} {rs nm en:LI} {K:PySem.W.Frag}
theorem Led.keep (L:Led H l hs rs nm en) (k:∀ b o,b∈l.all→H b=some o→H' b=some o):Led H' l hs rs nm en:=by
 have mp:∀ {b},b∈l.ps→b∈l.all:=fun h=>by unfold LdA.all;simp [h]
 have mq:∀ {b},b∈l.qs→b∈l.all:=fun h=>by unfold LdA.all;simp [h]
 have me:∀ {b},b∈l.es→b∈l.all:=fun h=>by unfold LdA.all;simp [h]
 exact ⟨k _ _ (by unfold LdA.all;simp) L.ha,k _ _ (by unfold LdA.all;simp) L.hb,k _ _ (by unfold LdA.all;simp) L.hc,k _ _ (by unfold LdA.all;simp) L.hd,L.lp,L.lq,L.le,fun i hi=>k _ _ (mp (zb0 (by rw [L.lp];exact hi))) (L.rp i hi),fun i hi=>k _ _ (mq (zb0 (by rw [L.lq];exact hi))) (L.rq i hi),fun i hi=>k _ _ (me (zb0 (by rw [L.le];exact hi))) (L.re i hi),L.nd⟩
theorem Led.same (L:Led H l hs rs nm en) (s:Same H H'):Led H' l hs rs nm en:=L.keep fun b o _ e=>s b o e
theorem Led.mem (L:Led H l hs rs nm en) {b:Addr} (h:b∈l.all):∃ o,H b=some o:=by
 unfold LdA.all at h;simp only [mem_cons,mem_append] at h;rcases h with h | h | h | h | h | h | h
 ·exact ⟨_,h▸L.ha⟩
 ·exact ⟨_,h▸L.hb⟩
 ·exact ⟨_,h▸L.hc⟩
 ·exact ⟨_,h▸L.hd⟩
 ·obtain ⟨i,hi,ei⟩:=L2.mem_getD (d:=0) h;exact ⟨_,ei▸L.rp i (by have:=L.lp;omega)⟩
 ·obtain ⟨i,hi,ei⟩:=L2.mem_getD (d:=0) h;exact ⟨_,ei▸L.rq i (by have:=L.lq;omega)⟩
 ·obtain ⟨i,hi,ei⟩:=L2.mem_getD (d:=0) h;exact ⟨_,ei▸L.re i (by have:=L.le;omega)⟩
theorem Led.lb (L:Led H l hs rs nm en):LL K H l.b rs:=⟨l.ps,SqL.of L.hb,L.lp,L.rp⟩
theorem Led.lc (L:Led H l hs rs nm en):LL K H l.c nm:=⟨l.qs,SqL.of L.hc,L.lq,L.rq⟩
theorem Led.ld (L:Led H l hs rs nm en):LL K H l.d en:=⟨l.es,SqL.of L.hd,L.le,L.re⟩
structure LdNd (l:LdA):Prop where
 ab:l.a≠l.b
 ac:l.a≠l.c
 ad:l.a≠l.d
 ap:l.a∉l.ps
 aq:l.a∉l.qs
 ae:l.a∉l.es
 bc:l.b≠l.c
 bd:l.b≠l.d
 bp:l.b∉l.ps
 bq:l.b∉l.qs
 be:l.b∉l.es
 cd:l.c≠l.d
 cp:l.c∉l.ps
 cq:l.c∉l.qs
 ce:l.c∉l.es
 dp:l.d∉l.ps
 dq:l.d∉l.qs
 de:l.d∉l.es
 np:l.ps.Nodup
 nq:l.qs.Nodup
 ne:l.es.Nodup
 pq:∀ b,b∈l.ps→b∉l.qs
 pe:∀ b,b∈l.ps→b∉l.es
 qe:∀ b,b∈l.qs→b∉l.es
theorem ld_iff:l.all.Nodup↔LdNd l:=by
 unfold LdA.all;simp only [nodup_cons,mem_cons,mem_append,nodup_append,not_or];constructor
 ·rintro ⟨⟨ab,ac,ad,ap,aq,ae⟩,⟨bc,bd,bp,bq,be⟩,⟨cd,cp,cq,ce⟩,⟨dp,dq,de⟩,np,⟨nq,ne,qe⟩,pqe⟩;exact ⟨ab,ac,ad,ap,aq,ae,bc,bd,bp,bq,be,cd,cp,cq,ce,dp,dq,de,np,nq,ne,fun b h h'=>pqe b h b (.inl h') rfl,fun b h h'=>pqe b h b (.inr h') rfl,fun b h h'=>qe b h b h' rfl⟩
 ·intro N;exact ⟨⟨N.ab,N.ac,N.ad,N.ap,N.aq,N.ae⟩,⟨N.bc,N.bd,N.bp,N.bq,N.be⟩,⟨N.cd,N.cp,N.cq,N.ce⟩,⟨N.dp,N.dq,N.de⟩,N.np,⟨N.nq,N.ne,fun a h b h' z=>N.qe a h (z▸h')⟩,fun a h b h' z=>h'.elim (fun h'=>N.pq a h (z▸h')) fun h'=>N.pe a h (z▸h')⟩
theorem Led.entry {o:Addr} {row:List Int} (L:Led H l hs rs nm en) (ho:o∉l.all) (eo:H o=some (.lst (row.map V.int))) (b:But l.d H H') (h1:H' l.d=some (.lst (l.es.map V.ref++[.ref o]))):Led H' { l with es:=l.es++[o] } hs rs nm (en++[row]):=by
 have N:=ld_iff.mp L.nd;have le:=L.le;have no:o≠l.d:=fun z=>ho (by rw [z];unfold LdA.all;simp);refine ⟨by rw [b _ N.ad];exact L.ha,by rw [b _ N.bd];exact L.hb,by rw [b _ N.cd];exact L.hc,by rw [h1,map_append];rfl,L.lp,L.lq,by show (l.es++[o]).length=_;rw [length_append,length_append,le];rfl,fun i hi=>?_,fun i hi=>?_,fun i hi=>?_,?_⟩
 ·rw [b _ (za6 N.dp (zb0 (by rw [L.lp];exact hi)))];exact L.rp i hi
 ·rw [b _ (za6 N.dq (zb0 (by rw [L.lq];exact hi)))];exact L.rq i hi
 ·rw [length_append,length_singleton] at hi;show H' ((l.es++[o]).getD i 0)=_
  by_cases z:i < en.length
  ·rw [zaB (by omega),zaB z,b _ (za6 N.de (zb0 (by omega)))];exact L.re i z
  ·have z':i=en.length:=by omega
   subst z';rw [zaC,← le,zaC,b _ no];exact eo
 ·have ho':=ho;unfold LdA.all at ho';simp only [mem_cons,mem_append,not_or] at ho';obtain ⟨oa,ob,oc,od,op,oq,oe⟩:=ho';have ma:∀ {x},x∉l.es→o≠x→x∉l.es++[o]:=fun h1 h2 z=>(mem_append.mp z).elim h1 fun z=>h2 (mem_singleton.mp z).symm;exact ld_iff.mpr ⟨N.ab,N.ac,N.ad,N.ap,N.aq,ma N.ae oa,N.bc,N.bd,N.bp,N.bq,ma N.be ob,N.cd,N.cp,N.cq,ma N.ce oc,N.dp,N.dq,ma N.de od,N.np,N.nq,nodup_append.mpr ⟨N.ne,by simp,fun c hc d hd z=>oe (by rw [← mem_singleton.mp hd,← z];exact hc)⟩,N.pq,fun c hc=>ma (N.pe c hc) (fun z=>op (z▸hc)),fun c hc=>ma (N.qe c hc) (fun z=>oq (z▸hc))⟩
theorem Led.name {k:Nat} {row:List Int} (L:Led H l hs rs nm en) (hk:k < nm.length) (b:But (l.qs.getD k 0) H H') (h1:H' (l.qs.getD k 0)=some (.lst (row.map V.int))):Led H' l hs rs (nm.set k row) en:=by
 have N:=ld_iff.mp L.nd;have lq:=L.lq;have hm:l.qs.getD k 0∈l.qs:=zb0 (by omega);have ne:∀ {x},x∉l.qs→x≠l.qs.getD k 0:=fun h z=>h (z▸hm);have ls:(nm.set k row).length=nm.length:=length_set;refine ⟨by rw [b _ (ne N.aq)];exact L.ha,by rw [b _ (ne N.bq)];exact L.hb,by rw [b _ (ne N.cq)];exact L.hc,by rw [b _ (ne N.dq)];exact L.hd,L.lp,lq.trans ls.symm,L.le,fun i hi=>?_,fun i hi=>?_,fun i hi=>?_,L.nd⟩
 ·rw [b _ (ne (N.pq _ (zb0 (by rw [L.lp];exact hi))))];exact L.rp i hi
 ·rw [ls] at hi;rw [zbn hk]
  by_cases z:i=k
  ·subst z;rw [if_pos rfl];exact h1
  ·rw [if_neg z,b _ (fun w=>z (zcG N.nq (by omega) (by omega) w))];exact L.rq i hi
 ·rw [b _ (fun w=>N.qe _ hm (by rw [← w];exact zb0 (by rw [L.le];exact hi)))];exact L.re i hi
end
theorem zlf {x y s:Int}:MarkB [x,y] s=zfn x y s:=rfl
theorem ziM {x y z s:Int}:MarkB [x,y,z] s=[mid3 x y z,1]:=rfl
structure Both (C:Addr) (H0 H:Hp) (x:Addr) (F:Addr→Prop) (st:ExS) (l:LdA):Prop where
 ex:ExAt C H x F st
 inb:InB st.hs st.rs
 dl:st.dl.isSome=true
 led:Led H l st.hs st.rs st.nm st.en
 nf:∀ b∈l.all,¬F b
 same:Same H0 H
 nf0:∀ b o,H0 b=some o→¬F b
 nl0:∀ b∈l.d::l.qs,H0 b=none
 e3:∀ i,i < st.en.length→(st.en.getD i []).length=3
theorem Both.grow {C:Addr} {H0 H H':Hp} {x:Addr} {F:Addr→Prop} {st:ExS} {l:LdA} (B:Both C H0 H x F st l) (s:Same H H'):Both C H0 H' x F st l :=
 ⟨B.ex.same s,B.inb,B.dl,B.led.same s,B.nf,B.same.trans s,B.nf0,B.nl0,B.e3⟩
theorem Both.n10 {C:Addr} {H0 H:Hp} {x:Addr} {F:Addr→Prop} {st:ExS} {l:LdA} (B:Both C H0 H x F st l):st.nm.length≤10:=B.ex.wf.n10 B.inb
end Prf
namespace L2
open PySem PySem.Spec PyProof.Rows
section
variable {X:Cx} {K:PySem.W.Frag}
def rEqE (K:PySem.W.Frag):R2:=fun x y H Q=>∃ a b xs,x=.ref a∧y=.ref b∧SqL K H a xs∧SqL K H b []∧Q (.bl (decide (xs=[]))) H
def rNeE (K:PySem.W.Frag):R2:=fun x y H Q=>∃ a b xs,x=.ref a∧y=.ref b∧SqL K H a xs∧SqL K H b []∧Q (.bl (!decide (xs=[]))) H
theorem znI (hu:X.A.units < cLine):OpR X (compareOp .Eq) (rEqE X.K):=by
 intro pins s σ H x y v u Q I rx ry h;obtain ⟨a,b,xs,rfl,rfl,h1,h2,q⟩:=h
 cases rx
 cases ry
 obtain ⟨its1,r1,p1,z1⟩:=I.list h1;obtain ⟨its2,r2,p2,z2⟩:=I.list h2;have l1:=r1.length;have l2:its2.length=0:=r2.length.symm
 by_cases hl:xs=[]
 ·subst hl;have l1':its1.length=0:=l1.symm;refine SeqAt.eq_listAt (e:=fun _=>true) p1.isList p2.isList (by simp;omega) hu (fun j h1 h2=>by simp at h1;omega) ⟨.bl _,H,I,rfl,?_⟩;rw [size_toArray,l1'];rw [decide_eq_true rfl] at q;exact q
 ·have:xs.length≠0:=fun z=>hl (eq_nil_of_length_eq_zero z);refine SeqAt.eq_list_lengthsAt p1.isList p2.isList (by simp;omega) hu ⟨.bl false,H,I,rfl,?_⟩;rw [decide_eq_false hl] at q;exact q
theorem znJ (hu:X.A.units < cLine):OpR X (compareOp .NotEq) (rNeE X.K):=by
 intro pins s σ H x y v u Q I rx ry h;obtain ⟨a,b,xs,rfl,rfl,h1,h2,q⟩:=h
 cases rx
 cases ry
 obtain ⟨its1,r1,p1,z1⟩:=I.list h1;obtain ⟨its2,r2,p2,z2⟩:=I.list h2;have l1:=r1.length;have l2:its2.length=0:=r2.length.symm
 by_cases hl:xs=[]
 ·subst hl;have l1':its1.length=0:=l1.symm;refine SeqAt.RcNeAt.lists (e:=fun _=>true) p1.isList p2.isList (by simp;omega) hu (fun j h1 h2=>by simp at h1;omega) _ _ _ _ ⟨.bl _,H,I,rfl,?_⟩;rw [size_toArray,l1'];rw [decide_eq_true rfl] at q;exact q
 ·have:xs.length≠0:=fun z=>hl (eq_nil_of_length_eq_zero z);refine SeqAt.RcNeAt.lists_lengths p1.isList p2.isList (by simp;omega) hu _ _ _ _ ⟨.bl true,H,I,rfl,?_⟩;rw [decide_eq_false hl] at q;exact q
def rEq2 (K:PySem.W.Frag):R2:=fun x y H Q=>zkO K x y H Q∨rEqE K x y H Q
def rNe2 (K:PySem.W.Frag):R2:=fun x y H Q=>rNeG K x y H Q∨rNeE K x y H Q
theorem zbF (h:X.K=K) (hu:X.A.units < cLine):OpR X (compareOp .Eq) (rEq2 K):=(zl7 h hu).or (h▸znI hu)
theorem zc8 (h:X.K=K) (hu:X.A.units < cLine):OpR X (compareOp .NotEq) (rNe2 K):=(zm1 h).or (h▸znJ hu)
section
variable {H:Hp} {Q:VK} {i j:Int}
theorem znK (q:Q (.bl (decide (i=j))) H):rEq2 K (.int i) (.int j) H Q:=.inl (zl8 q)
theorem znL {a b:Bool} (q:Q (.bl (decide (a=b))) H):rEq2 K (.bl a) (.bl b) H Q:=.inl (zl9 q)
theorem znM {a b:Addr} {xs:List V} (h1:SqL K H a xs) (h2:SqL K H b []) (q:Q (.bl (decide (xs=[]))) H):rEq2 K (.ref a) (.ref b) H Q:=.inr ⟨a,b,xs,rfl,rfl,h1,h2,q⟩
theorem znN (q:Q (.bl (!decide (i=j))) H):rNe2 K (.int i) (.int j) H Q:=.inl (zlw q)
end
end
end L2
namespace Prf
open PySem PySem.Spec PyProof.Rows L2
def fitT (hs:List Int) (rs:LI) (left:List Int) (k:Int) (row:List Int) (i:Nat):Bool :=
 !decide ((rs.getD i []).getD 0 0=hs.getD (k-1).toNat 0) && decide (1≤left.getD i 0) && !decide ((i:Int)+1∈row)
def trd (fit:Nat→Bool) (n:Nat):Nat→Int
 | 0=>0
 | i+1=>if fit (n-(i+1))=true then ((n-(i+1):Nat):Int)+1 else trd fit n i
theorem zly {fit:Nat→Bool} {n k:Nat} (h:k < n):trd fit n (n-k)=if fit k=true then (k:Int)+1 else trd fit n (n-(k+1)):=by
 have e:n-k=(n-(k+1))+1:=by omega
 rw [e];show (if fit (n-(n-(k+1)+1))=true then ((n-(n-(k+1)+1):Nat):Int)+1 else _)=_;have e2:n-(n-(k+1)+1)=k:=by omega
 rw [e2]
def za7 (hs:List Int) (rs:LI) (left:List Int) (k:Int) (row:List Int):Int:=trd (fitT hs rs left k row) rs.length rs.length
theorem zf2 {fit:Nat→Bool} {n:Nat}:∀ k,k≤n→(∀ j,j < k→fit j=false)→trd fit n n=trd fit n (n-k)
 | 0,_,_=>rfl
 | k+1,h,hb=>by
   rw [zf2 k (by omega) (fun j hj=>hb j (by omega)),zly (by omega),hb k (by omega)];rfl
theorem zgI {fit:Nat→Bool} {n k:Nat} (hk:k < n) (h:fit k=true) (hb:∀ j,j < k→fit j=false):trd fit n n=(k:Int)+1:=by
 rw [zf2 k (by omega) hb,zly hk,if_pos h]
theorem zib {fit:Nat→Bool} {n:Nat} (hb:∀ j,j < n→fit j=false):trd fit n n=0:=by
 rw [zf2 n (Nat.le_refl _) hb,Nat.sub_self];rfl
def zbs (st:ExS) (k:Nat):Bool:=decide ((st.nm.getD k []).length=2) && decide (zaF st.nm st.en k=[]) && !zbm ((ptsOf st.nm st.en k).getD 0 0) ((ptsOf st.nm st.en k).getD 1 0) st.step
theorem zkc {fit:Nat→Bool} {n:Nat}:∀ i,i≤n→0 < trd fit n i→∃ j,j < n∧fit j=true∧trd fit n i=(j:Int)+1
 | 0,_,h=>absurd h (by show ¬(0:Int) < 0;decide)
 | i+1,hi,h=>by
   unfold trd at h ⊢;split
   ·rename_i hf
    exact ⟨n-(i+1),by omega,hf,rfl⟩
   ·rename_i hf
    rw [if_neg hf] at h;exact zkc i (by omega) h
theorem zdh {hs:List Int} {rs:LI} {left row:List Int} {k:Int} (h:0 < za7 hs rs left k row):1≤za7 hs rs left k row∧za7 hs rs left k row≤rs.length∧za7 hs rs left k row∉row∧1≤left.getD (za7 hs rs left k row-1).toNat 0∧¬(rs.getD (za7 hs rs left k row-1).toNat []).getD 0 0=hs.getD (k-1).toNat 0:=by
 obtain ⟨j,hj,hf,e⟩:=zkc (fit:=fitT hs rs left k row) rs.length (Nat.le_refl _) h;have e':za7 hs rs left k row=(j:Int)+1:=e;rw [e'];unfold fitT at hf;simp only [Bool.and_eq_true,Bool.not_eq_true',decide_eq_false_iff_not,decide_eq_true_eq] at hf;have ej:((j:Int)+1-1).toNat=j:=by omega
 rw [ej];exact ⟨by omega,by omega,hf.2,hf.1.2,hf.1.1⟩
def zaJ (st:ExS) (k:Nat):Int:=if zbs st k=true then za7 st.hs st.rs (zf0 st) ((k:Int)+1) (st.nm.getD k []) else 0
def zaH (st:ExS) (k:Nat):ExS:=if 0 < zaJ st k then { st with dl:=some (st.nm.set k (st.nm.getD k []++[zaJ st k]),st.en) } else st
def entS (st:ExS) (k:Nat) (r p:Int):ExS:={ st with dl:=some (st.nm,st.en++[[(k:Int)+1,r,p]]) }
theorem ExFr.trans {H H1 H2:Hp} {F F1 F2:Addr→Prop} (a:ExFr H H1 F F1) (b:ExFr H1 H2 F1 F2):ExFr H H2 F F2 :=
 ⟨fun c o e n=>b.kp c o (a.kp c o e n) (fun z=>(a.fp c z).elim n fun z=>by rw [e] at z;cases z),fun c z=>(b.fp c z).elim (a.fp c) fun z=>by
  by_cases h:F c
  ·exact .inl h
  ·right
   cases hc:H c with
   | none=>rfl
   | some o=>rw [a.kp c o hc h] at z;cases z⟩
theorem zmo {st:ExS} {k:Nat} {r p:Int}:(entS st k r p).en=st.en++[[(k:Int)+1,r,p]]:=rfl
theorem zmp {st:ExS} (w:Wf st) (hd:st.dl.isSome=true) {k:Nat} {r p:Int} (h:0≤p∧p≤100):Wf (entS st k r p):=by
 obtain ⟨d,hdl⟩:=Option.isSome_iff_exists.mp hd;obtain ⟨nm,en⟩:=d;have enm:st.nm=nm:=by unfold ExS.nm;rw [hdl];rfl
 have een:st.en=en:=by unfold ExS.en;rw [hdl];rfl
 unfold entS;rw [enm,een];exact w.ofEnter hdl h
theorem zgJ {st:ExS} (w:Wf st) (hd:st.dl.isSome=true):zcO st=(List.range st.nm.length).map (zbM st.nm st.en st.step):=by
 have hl:=w.ln hd;obtain ⟨d,hdl⟩:=Option.isSome_iff_exists.mp hd;obtain ⟨nm,en⟩:=d;have enm:st.nm=nm:=by unfold ExS.nm;rw [hdl];rfl
 have een:st.en=en:=by unfold ExS.en;rw [hdl];rfl
 rw [hl];unfold zcO;rw [hdl,enm,een]
theorem zic {hs:List Int} {rs tt:LI} (h:zaW hs rs tt=true):tt.map (List.take 2)=tt:=by
 have RP:=zc1.mp h;refine (map_congr_left fun r hr=>?_).trans (map_id tt);obtain ⟨i,hi,e⟩:=L2.mem_getD (d:=[]) hr;have:=RP.two i (by rw [← RP.len];exact hi);rw [e] at this;show r.take 2=r;rw [take_of_length_le (by omega)]
def cntE (nm en:LI) (k:Nat):Nat:=((nm.getD k []).filter fun r=>(zaE en k r).isSome).length
def sumE (nm en:LI):Nat→Nat
 | 0=>0
 | k+1=>sumE nm en k+cntE nm en k
theorem zc9 (nm en:LI) (k:Nat):cntE nm en k+(zaF nm en k).length=(nm.getD k []).length:=by
 unfold cntE zaF
 induction nm.getD k [] with
 | nil=>rfl
 | cons r rs ih =>
   rw [filter_cons,filter_cons,length_cons]
   cases zaE en k r with
   | none=>simp at ih ⊢;omega
   | some p=>simp at ih ⊢;omega
theorem zd6 {nm nm' en en':LI}:∀ n,(∀ k,k < n→cntE nm' en' k=cntE nm en k)→sumE nm' en' n=sumE nm en n
 | 0,_=>rfl
 | n+1,h=>by
   show sumE nm' en' n+cntE nm' en' n=sumE nm en n+cntE nm en n;rw [zd6 n (fun k hk=>h k (by omega)),h n (by omega)]
theorem zid {nm nm' en en':LI} {k:Nat}:∀ n,k < n→(∀ j,j < n→j≠k→cntE nm' en' j=cntE nm en j)→cntE nm' en' k=cntE nm en k+1→sumE nm' en' n=sumE nm en n+1
 | 0,h,_,_=>absurd h (by omega)
 | n+1,h,ho,hk=>by
   show sumE nm' en' n+cntE nm' en' n=sumE nm en n+cntE nm en n+1
   by_cases e:k=n
   ·subst e;rw [zd6 k (fun j hj=>ho j (by omega) (by omega)),hk];omega
   ·rw [zid n (by omega) (fun j hj=>ho j (by omega)) hk,ho n (by omega) (fun z=>e z.symm)];omega
theorem zbt {en:LI} {k j:Nat} {r p r':Int} (h:j≠k∨r'≠r):zaE (en++[[(k:Int)+1,r,p]]) j r'=zaE en j r':=by
 rw [zbR,if_neg];rintro ⟨z1,z2⟩;have z1':(k:Int)+1=(j:Int)+1:=z1;have z2':r=r':=z2;rcases h with h | h
 ·exact h (by omega)
 ·exact h z2'.symm
theorem zdP {en:LI} {k:Nat} {r p:Int}:zaE (en++[[(k:Int)+1,r,p]]) k r=some p:=by
 rw [zbR,if_pos ⟨rfl,rfl⟩];rfl
theorem zkd {row:List Int} {c c':Int→Bool} {r:Int} (nd:row.Nodup) (hr:r∈row) (h0:c r=false) (h1:c' r=true) (ho:∀ x,x≠r→c' x=c x):(row.filter c').length=(row.filter c).length+1:=by
 induction row with
 | nil=>cases hr
 | cons x xs ih =>
   rw [filter_cons,filter_cons];rw [nodup_cons] at nd
   by_cases e:x=r
   ·subst e;rw [if_pos h1,if_neg (by rw [h0];decide)];have:xs.filter c'=xs.filter c:=filter_congr fun y hy=>ho y (fun z=>nd.1 (z▸hy));rw [this];rfl
   ·have hr':r∈xs:=by
     rcases mem_cons.mp hr with z | z
     ·exact absurd z.symm e
     ·exact z
    rw [ho x e];have:=ih nd.2 hr';split
    ·rw [length_cons,length_cons,this]
    ·exact this
def Nam (st:ExS):Prop:=∀ k r,(zaE st.en k r).isSome=true→r∈st.nm.getD k []
theorem zke {st:ExS} (W:Wf st) (N:Nam st) {k:Nat} {r p:Int} (hk:k < st.nm.length) (hr:r∈zaF st.nm st.en k):sumE (zaH (entS st k r p) k).nm (st.en++[[(k:Int)+1,r,p]]) st.nm.length=sumE st.nm st.en st.nm.length+1:=by
 obtain ⟨hr1,hr2⟩:=mem_filter.mp hr;have hrn:(zaE st.en k r).isSome=false:=by cases h:zaE st.en k r <;> simp_all
 have key:cntE st.nm (st.en++[[(k:Int)+1,r,p]]) k=cntE st.nm st.en k+1:=by
  unfold cntE;exact zkd (W.row k hk).nodup hr1 hrn (by rw [zdP];rfl) (fun x hx=>by rw [zbt (.inr hx)])
 have oth:∀ j,j < st.nm.length→j≠k→cntE st.nm (st.en++[[(k:Int)+1,r,p]]) j=cntE st.nm st.en j:=fun j _ hj=>by
  unfold cntE
  congr 1
  exact filter_congr fun x _=>by rw [zbt (.inl hj)]
 have base:=zid (nm:=st.nm) (nm':=st.nm) (en:=st.en) (en':=st.en++[[(k:Int)+1,r,p]]) st.nm.length hk oth key;rw [← base];refine zd6 _ fun j hj=>?_;unfold zaH;split
 ·rename_i h0
  show cntE (st.nm.set k (st.nm.getD k []++[zaJ (entS st k r p) k])) _ j=_;unfold cntE;rw [zbn hk]
  by_cases e:j=k
  ·subst e;rw [if_pos rfl,filter_append,length_append];have hneed:zbs (entS st j r p) j=true:=by
    unfold zaJ at h0
    cases hn:zbs (entS st j r p) j with
    | true=>rfl
    | false=>rw [hn,if_neg (by decide)] at h0;exact absurd h0 (by decide)
   have ht:zaJ (entS st j r p) j=za7 st.hs st.rs (za1 st.rs st.nm) ((j:Int)+1) (st.nm.getD j []):=by unfold zaJ;rw [hneed];rfl
   have h0':0 < za7 st.hs st.rs (za1 st.rs st.nm) ((j:Int)+1) (st.nm.getD j []):=by rw [← ht];exact h0
   have sp:=zdh h0';rw [← ht] at sp;have hno:zaE (st.en++[[(j:Int)+1,r,p]]) j (zaJ (entS st j r p) j)=none:=by
    rw [zbt (.inr (fun z=>sp.2.2.1 (by rw [z];exact hr1)))]
    cases hh:zaE st.en j (zaJ (entS st j r p) j) with
    | none=>rfl
    | some q=>exact absurd (N j _ (by rw [hh];rfl)) sp.2.2.1
   have:([zaJ (entS st j r p) j].filter fun r'=>(zaE (st.en++[[(j:Int)+1,r,p]]) j r').isSome)=[]:=by
    rw [filter_cons,hno];rfl
   rw [this];rfl
  ·rw [if_neg e]
 ·rfl
theorem zeC {st:ExS} {k:Nat}:(zaH st k).en=st.en:=by
 unfold zaH;split
 ·rfl
 ·rfl
theorem zeY {st:ExS} {k:Nat}:(zaH st k).nm.length=st.nm.length:=by
 unfold zaH;split
 ·show (st.nm.set k _).length=_;rw [length_set]
 ·rfl
theorem zf3 {st:ExS} {k:Nat}:(zaH st k).hs=st.hs:=by unfold zaH;split <;> rfl
theorem zf4 {st:ExS} {k:Nat}:(zaH st k).rs=st.rs:=by unfold zaH;split <;> rfl
theorem ziN {st:ExS} {k:Nat}:(zaH st k).step=st.step:=by unfold zaH;split <;> rfl
theorem zie {st:ExS} {k:Nat} (h:st.dl.isSome=true):(zaH st k).dl.isSome=true:=by unfold zaH;split;rfl;exact h
theorem zeZ {st:ExS} {k j:Nat} (hk:k < st.nm.length):(zaH st k).nm.getD j []=if j=k∧0 < zaJ st k then st.nm.getD k []++[zaJ st k] else st.nm.getD j []:=by
 unfold zaH;split
 ·rename_i h0
  show (st.nm.set k _).getD j []=_;rw [zbn hk]
  by_cases e:j=k
  ·rw [if_pos e,if_pos ⟨e,h0⟩]
  ·rw [if_neg e,if_neg (fun z=>e z.1)]
 ·rename_i h0
  rw [if_neg (fun z=>h0 z.2)]
structure Run (st:ExS) (i:Nat):Prop where
 nam:Nam st
 sum:sumE st.nm st.en st.nm.length=st.en.length
 len:st.en.length=i
 e3:∀ j,j < st.en.length→(st.en.getD j []).length=3
theorem Run.new {hs:List Int} {rs tt:LI} {stp:Int}:Run ⟨hs,rs,stp,some (tt,[])⟩ 0:=by
 refine ⟨fun k r h=>(by cases h),?_,rfl,fun j hj=>absurd hj (by simp [ExS.en])⟩;show sumE tt [] tt.length=0;have:∀ n,sumE tt [] n=0:=fun n=>by
  induction n with
  | zero=>rfl
  | succ n ih =>
    show sumE tt [] n+cntE tt [] n=0;rw [ih];unfold cntE;rw [List.filter_eq_nil_iff.mpr (fun r _=>by simp [zdO])];rfl
 exact this _
theorem Run.enter {st:ExS} {i k:Nat} {r p:Int} (R:Run st i) (W:Wf st) (hk:k < st.nm.length) (hr:r∈zaF st.nm st.en k):Run (zaH (entS st k r p) k) (i+1):=by
 obtain ⟨hr1,_⟩:=mem_filter.mp hr;have een:(zaH (entS st k r p) k).en=st.en++[[(k:Int)+1,r,p]]:=by rw [zeC];rfl
 refine ⟨fun j r' h=>?_,?_,?_,?_⟩
 ·rw [zeZ (st:=entS st k r p) hk];rw [een] at h;have key:r'∈st.nm.getD j []:=by
   by_cases e:j=k∧r'=r
   ·obtain ⟨rfl,rfl⟩:=e;exact hr1
   ·rw [zbt (by
     by_cases e1:j=k
     ·exact .inr fun z=>e ⟨e1,z⟩
     ·exact .inl e1)] at h
    exact R.nam j r' h
  split
  ·rename_i h2
   rw [h2.1] at key;exact mem_append_left _ key
  ·exact key
 ·rw [een,zeY];show sumE _ _ st.nm.length=_;rw [zke W R.nam hk hr,R.sum,length_append];rfl
 ·rw [een,length_append,R.len];rfl
 ·rw [een];intro j hj;rw [length_append,length_singleton] at hj
  by_cases e:j < st.en.length
  ·rw [zaB e];exact R.e3 j e
  ·have:j=st.en.length:=by omega
   subst this;rw [zaC];rfl
theorem zlz {st:ExS} (W:Wf st):∀ n,n≤st.nm.length→sumE st.nm st.en n≤3 * n
 | 0,_=>Nat.le_refl _
 | n+1,h=>by
   show sumE st.nm st.en n+cntE st.nm st.en n≤_;have h1:=zlz W n (by omega);have h2:=zc9 st.nm st.en n;have h3:=(W.row n (by omega)).len;omega
theorem zif {st:ExS} (W:Wf st):∀ n,n≤st.nm.length→3 * n≤sumE st.nm st.en n→∀ k,k < n→zaF st.nm st.en k=[]
 | 0,_,_,k,hk=>absurd hk (by omega)
 | n+1,h,hs,k,hk=>by
   have hs':3 * (n+1)≤sumE st.nm st.en n+cntE st.nm st.en n:=hs;have h1:=zlz W n (by omega);have h2:=zc9 st.nm st.en n;have h3:=(W.row n (by omega)).len
   by_cases e:k=n
   ·subst e;exact eq_nil_of_length_eq_zero (by omega)
   ·exact zif W n (by omega) (by omega) k (by omega)
theorem ze0 {nm en:LI}:dueB nm en=[]↔∀ k,k < nm.length→zaF nm en k=[]:=by
 unfold dueB;rw [List.flatMap_eq_nil_iff];constructor
 ·intro h k hk;exact List.map_eq_nil_iff.mp (h k (mem_range.mpr hk))
 ·intro h k hk;rw [h k (mem_range.mp hk)];rfl
theorem Run.done {st:ExS} {i:Nat} (R:Run st i) (W:Wf st) (hn:3 * st.nm.length≤i):dueB st.nm st.en=[]:=by
 refine ze0.mpr (zif W _ (Nat.le_refl _) ?_);rw [R.sum,R.len];exact hn
end Prf
namespace L2
open PySem PySem.Spec PyProof.Rows
section
variable {X:Cx} {K:PySem.W.Frag}
def rInN (K:PySem.W.Frag) (neg:Bool):R2:=fun x y H Q=>x=.non∧∃ p vs,y=.ref p∧SqL K H p vs∧(∀ v∈vs,∃ q ys,v=.ref q∧SqL K H q ys)∧Q (.bl neg) H
def rInR (K:PySem.W.Frag) (neg:Bool):R2:=fun x y H Q=>∃ (a p:Addr) (xs:List Int) (rows:LI),x=.ref a∧y=.ref p∧H a=some (.lst (xs.map V.int))∧LL K H p rows∧Q (.bl (if neg then !decide (xs∈rows) else decide (xs∈rows))) H
theorem zlA {pins:List (Addr×Obj)} {σ:St} {H:Hp} {s:Shared} {vs:List V} {its:List Value} (hu:X.A.units+1 < cLine) (I:Inv X pins σ H s) (r:Vals vs its) (h:∀ v∈vs,∃ q ys,v=.ref q∧SqL X.K H q ys):∀ y∈its.toArray,SeqAt.EqAt X.A.in1 s y .none false:=fun y hy=>by
 have hy':y∈its:=by simpa using hy
 obtain ⟨i,hi,e⟩:=getElem_of_mem hy';have hl:=r.length;obtain ⟨u,hu1,hu2⟩:=r.get (i:=i) (x:=vs[i]'(by omega)) (getElem?_eq_getElem (by omega));rw [getElem?_eq_getElem hi] at hu1;have e2:u=y:=by rw [← e];exact (Option.some.inj hu1).symm
 subst e2;obtain ⟨q,ys,hq,hs⟩:=h _ (getElem_mem (show i < vs.length by omega));rw [hq] at hu2
 cases hu2
 obtain ⟨_,_,pl,_⟩:=I.list hs;exact SeqAt.EqAt.list_none pl.isList hu
theorem znO (hu:X.A.units+1 < cLine):OpR X (compareOp .In) (rInN X.K false):=by
 intro pins s σ H x y v u Q I rx ry h;obtain ⟨rfl,p,vs,rfl,hq,hv,q⟩:=h
 cases rx
 cases ry
 obtain ⟨its,r,pl,hz⟩:=I.list hq;refine SeqAt.in_listAt (fun _=>false) pl.isList (zlA hu I r hv) ⟨.bl _,H,I,rfl,?_⟩;rw [show its.toArray.any (fun _=>false)=false by simp];exact q
theorem zkf (hu:X.A.units+1 < cLine):OpR X (compareOp .NotIn) (rInN X.K true):=by
 intro pins s σ H x y v u Q I rx ry h;obtain ⟨rfl,p,vs,rfl,hq,hv,q⟩:=h
 cases rx
 cases ry
 obtain ⟨its,r,pl,hz⟩:=I.list hq;refine SeqAt.notIn_listAt (fun _=>false) pl.isList (zlA hu I r hv) ⟨.bl _,H,I,rfl,?_⟩;rw [show its.toArray.any (fun _=>false)=false by simp];exact q
def rowE (H:Hp) (xs:List Int):Value→Bool
 | .ref q=>match H q with
   | some (.lst vs)=>decide (vs=xs.map V.int)
   | _=>false
 | _=>false
theorem map_int_inj:∀ {xs ys:List Int},xs.map V.int=ys.map V.int→xs=ys
 | [],[],_=>rfl
 | [],_::_,h=>by simp at h
 | _::_,[],h=>by simp at h
 | x::xs,y::ys,h=>by
   rw [map_cons,map_cons] at h;injection h with h1 h2;injection h1 with h1;rw [h1,map_int_inj h2]
theorem zou {pins:List (Addr×Obj)} {σ:St} {H:Hp} {s:Shared} {a q:Addr} {xs ys:List Int} {A:Around} (hu:A.units < cLine) (I:Inv X pins σ H s) (ha:H a=some (.lst (xs.map V.int))) (hq:H q=some (.lst (ys.map V.int))):SeqAt.EqAt A s (.ref q) (.ref a) (decide (ys=xs)):=by
 by_cases e:q=a
 ·subst e;rw [ha] at hq;have:=map_int_inj (HO.lst.inj (Option.some.inj hq));rw [decide_eq_true this.symm];exact SeqAt.EqAt.same _
 ·obtain ⟨its1,r1,p1,z1⟩:=I.list (SqL.of (K:=X.K) hq);obtain ⟨its2,r2,p2,z2⟩:=I.list (SqL.of (K:=X.K) ha);have l1:=r1.length;have l2:=r2.length;rw [length_map] at l1 l2;refine SeqAt.EqAt.of_refs e ?_
  by_cases hl:ys.length=xs.length
  ·have key:=SeqAt.RcAt.lists (A:=A) (e:=fun j=>eqV ((ys.map V.int).getD j .non) ((xs.map V.int).getD j .non)) p1.isList p2.isList (by simp;omega) hu (fun j h1 h2=>?_)
   ·have e1:its1.toArray.size=(ys.map V.int).length:=by simp;omega
    rw [e1,eqVs_all (by simp;omega),eqVs_ints] at key;exact key
   ·simp only [size_toArray] at h1 h2;have e1:(ys.map V.int)[j]? = some ((ys.map V.int).getD j .non):=by rw [getD_eq_getElem?_getD,getElem?_eq_getElem (by simp;omega)];rfl
    have e2:(xs.map V.int)[j]? = some ((xs.map V.int).getD j .non):=by rw [getD_eq_getElem?_getD,getElem?_eq_getElem (by simp;omega)];rfl
    obtain ⟨u1,a1,b1⟩:=r1.get e1;obtain ⟨u2,a2,b2⟩:=r2.get e2;have c1:its1.toArray[j]=u1:=by simpa [getElem?_eq_getElem h1] using a1
    have c2:its2.toArray[j]=u2:=by simpa [getElem?_eq_getElem h2] using a2
    rw [c1,c2];have fl:∀ zs:List Int,(zs.map V.int).all flatV=true:=fun zs=>by simp [flatV]
    exact zjs b1 b2 (all_eq_true.mp (fl _) _ (mem_of_getElem? e1)) (all_eq_true.mp (fl _) _ (mem_of_getElem? e2))
  ·rw [decide_eq_false (fun z=>hl (by rw [z]))];exact SeqAt.RcAt.lists_lengths p1.isList p2.isList (by simp;omega) hu
theorem zfF {pins:List (Addr×Obj)} {σ:St} {H:Hp} {s:Shared} {a:Addr} {xs:List Int} {rows:LI} {ps:List Addr} {its:List Value} (hu:X.A.units+1 < cLine) (I:Inv X pins σ H s) (ha:H a=some (.lst (xs.map V.int))) (r:Vals (ps.map V.ref) its) (hl:ps.length=rows.length)
  (hr:∀ i,i < rows.length→H (ps.getD i 0)=some (.lst ((rows.getD i []).map V.int))):(∀ y∈its.toArray,SeqAt.EqAt X.A.in1 s y (.ref a) (rowE H xs y))∧its.toArray.any (rowE H xs)=decide (xs∈rows):=by
 have hlen:=r.length;rw [length_map] at hlen;have at_:∀ i (hi:i < its.length),its[i]=.ref (ps.getD i 0):=fun i hi=>by
  obtain ⟨u,hu1,hu2⟩:=r.get (i:=i) (x:=.ref (ps.getD i 0)) (by rw [getElem?_map,getElem?_eq_getElem (by omega),getD_eq_getElem?_getD,getElem?_eq_getElem (by omega)];rfl);rw [getElem?_eq_getElem hi] at hu1
  cases hu2
  exact Option.some.inj hu1
 have ev:∀ i,i < rows.length→rowE H xs (.ref (ps.getD i 0))=decide (rows.getD i []=xs):=fun i hi=>by
  unfold rowE;simp only [hr i hi];rw [decide_eq_decide];exact ⟨map_int_inj,fun z=>by rw [z]⟩
 refine ⟨fun y hy=>?_,?_⟩
 ·obtain ⟨i,hi,e⟩:=getElem_of_mem (show y∈its by simpa using hy);rw [← e,at_ i hi,ev i (by omega)];exact zou (A:=X.A.in1) hu I ha (hr i (by omega))
 ·rw [show its.toArray.any (rowE H xs)=its.any (rowE H xs) by simp,Bool.eq_iff_iff,any_eq_true,decide_eq_true_eq];constructor
  ·rintro ⟨y,hy,e⟩;obtain ⟨i,hi,e'⟩:=getElem_of_mem hy;rw [← e',at_ i hi,ev i (by omega)] at e;rw [← of_decide_eq_true e];rw [getD_eq_getElem?_getD,getElem?_eq_getElem (show i < rows.length by omega)];exact getElem_mem _
  ·intro h;obtain ⟨i,hi,e⟩:=L2.mem_getD (d:=[]) h;refine ⟨its[i]'(by omega),getElem_mem _,?_⟩;rw [at_ i (by omega),ev i hi,decide_eq_true e]
theorem znP (hu:X.A.units+1 < cLine):OpR X (compareOp .In) (rInR X.K false):=by
 intro pins s σ H x y v u Q I rx ry h;obtain ⟨a,p,xs,rows,rfl,rfl,ha,⟨ps,hp,hl,hr⟩,q⟩:=h
 cases rx
 cases ry
 obtain ⟨its,r,pl,hz⟩:=I.list hp;obtain ⟨h1,h2⟩:=zfF hu I ha r hl hr;refine SeqAt.in_listAt (rowE H xs) pl.isList h1 ⟨.bl _,H,I,rfl,?_⟩;rw [h2];exact q
theorem zkg (hu:X.A.units+1 < cLine):OpR X (compareOp .NotIn) (rInR X.K true):=by
 intro pins s σ H x y v u Q I rx ry h;obtain ⟨a,p,xs,rows,rfl,rfl,ha,⟨ps,hp,hl,hr⟩,q⟩:=h
 cases rx
 cases ry
 obtain ⟨its,r,pl,hz⟩:=I.list hp;obtain ⟨h1,h2⟩:=zfF hu I ha r hl hr;refine SeqAt.notIn_listAt (rowE H xs) pl.isList h1 ⟨.bl _,H,I,rfl,?_⟩;rw [h2];exact q
def rIn2 (K:PySem.W.Frag) (neg:Bool):R2:=fun x y H Q=>rIn K neg x y H Q∨(rInN K neg x y H Q∨rInR K neg x y H Q)
theorem zeg (h:X.K=K) (hu:X.A.units+1 < cLine):OpR X (compareOp .In) (rIn2 K false):=(zm0 h).or ((h▸znO hu).or (h▸znP hu))
theorem ze1 (h:X.K=K) (hu:X.A.units+1 < cLine):OpR X (compareOp .NotIn) (rIn2 K true):=(zjE h).or ((h▸zkf hu).or (h▸zkg hu))
end
section
variable {H:Hp} {K:PySem.W.Frag} {Q:VK} {i:Int} {a p:Addr}
theorem zmq {nx bk ct:St→Hp→Prop} {rt:VK} {σ:St} (h:bk σ H):tBreak ⟨nx,rt,bk,ct⟩ σ H:=h
theorem znQ {xs:List Int} (h:SqL K H a (xs.map V.int)) (q:Q (.bl (decide (i∈xs))) H):rIn2 K false (.int i) (.ref a) H Q:=.inl (zoo h q)
theorem zkh {xs:List Int} (h:SqL K H a (xs.map V.int)) (q:Q (.bl (!decide (i∈xs))) H):rIn2 K true (.int i) (.ref a) H Q:=.inl (zkP h q)
theorem zlB {gs:List (Option Int)} (h:SqL K H a (gs.map Prf.encO)) (q:Q (.bl (decide (none∈gs))) H):rIn2 K false .non (.ref a) H Q:=.inl (Prf.zot h q)
end
end L2
namespace Prf
open PySem PySem.Spec PyProof.Rows L2
theorem zho {l:LdA}:(l.a∈l.all∧l.b∈l.all∧l.c∈l.all∧l.d∈l.all)∧(∀ y∈l.ps,y∈l.all)∧(∀ y∈l.qs,y∈l.all)∧∀ y∈l.es,y∈l.all:=by
 unfold LdA.all;refine ⟨⟨by simp,by simp,by simp,by simp⟩,fun y h=>by simp [h],fun y h=>by simp [h],fun y h=>by simp [h]⟩
theorem Both.mk0 {C:Addr} {H0 H:Hp} {x a b c d:Addr} {F:Addr→Prop} {hs:List Int} {rs nm:LI} {stp:Int} {ps qs:List Addr} (E:ExAt C H x F ⟨hs,rs,stp,some (nm,[])⟩) (B:InB hs rs) (s:Same H0 H) (nf0:∀ b o,H0 b=some o→¬F b)
  (ha:H0 a=some (.lst (hs.map V.int))) (hb:H0 b=some (.lst (ps.map V.ref))) (lp:ps.length=rs.length) (rp:∀ i,i < rs.length→H0 (ps.getD i 0)=some (.lst ((rs.getD i []).map V.int))) (nd0:(a::b::ps).Nodup)
  (hc:H c=some (.lst (qs.map V.ref))) (lq:qs.length=nm.length) (rq:∀ i,i < nm.length→H (qs.getD i 0)=some (.lst ((nm.getD i []).map V.int))) (nq:qs.Nodup) (cq:c∉qs) (hd:H d=some (.lst [])) (dn:d∉c::qs) (new:∀ y∈d::c::qs,H0 y=none∧¬F y) :
  Both C H0 H x F ⟨hs,rs,stp,some (nm,[])⟩ ⟨a,b,c,d,ps,qs,[]⟩:=by
 have mp:∀ y∈ps,∃ o,H0 y=some o:=fun y hy=>by
  obtain ⟨i,hi,ei⟩:=L2.mem_getD (d:=0) hy;exact ⟨_,ei▸rp i (by omega)⟩
 have ne:∀ {y z},(∃ o,H0 y=some o)→z∈d::c::qs→y≠z:=fun h hz e=>by
  obtain ⟨o,h⟩:=h;rw [e,(new _ hz).1] at h
  cases h
 have md:d∈d::c::qs:=mem_cons_self;have mc:c∈d::c::qs:=mem_cons_of_mem _ mem_cons_self;have mq:∀ {y},y∈qs→y∈d::c::qs:=fun h=>mem_cons_of_mem _ (mem_cons_of_mem _ h);simp only [nodup_cons,mem_cons,not_or] at nd0 dn;obtain ⟨⟨ab,ap⟩,bp,np⟩:=nd0;have xa:∃ o,H0 a=some o:=⟨_,ha⟩
 have xb:∃ o,H0 b=some o:=⟨_,hb⟩
 refine ⟨E,B,rfl,⟨s _ _ ha,s _ _ hb,hc,hd,lp,lq,rfl,fun i hi=>s _ _ (rp i hi),rq,fun i hi=>absurd hi (by simp [ExS.en]),?_⟩,fun y hy=>?_,s,nf0,fun y hy=>?_,fun i hi=>absurd hi (by simp [ExS.en])⟩
 ·refine ld_iff.mpr ⟨ab,ne xa mc,ne xa md,ap,fun h=>ne xa (mq h) rfl,by simp,ne xb mc,ne xb md,bp,fun h=>ne xb (mq h) rfl,by simp,fun z=>dn.1 z.symm,fun h=>ne (mp _ h) mc rfl,cq,by simp,fun h=>ne (mp _ h) md rfl,dn.2,by simp,np,nq,nodup_nil,fun y h h'=>ne (mp _ h) (mq h') rfl,by simp,by simp⟩
 ·unfold LdA.all at hy;simp only [mem_cons,mem_append,append_nil] at hy;rcases hy with h | h | h | h | h | h
  ·exact h▸nf0 _ _ ha
  ·exact h▸nf0 _ _ hb
  ·exact h▸(new _ mc).2
  ·exact h▸(new _ md).2
  ·obtain ⟨o,e⟩:=mp _ h;exact nf0 _ _ e
  ·exact (new _ (mq h)).2
 ·rcases mem_cons.mp hy with h | h
  ·exact h▸(new _ md).1
  ·exact (new _ (mq h)).1
theorem Both.due {C:Addr} {H0 H:Hp} {x:Addr} {F:Addr→Prop} {st:ExS} {l:LdA} (B:Both C H0 H x F st l):(dueB st.nm st.en).length≤30:=by
 have h1:=zlx B.ex.wf;have h2:=B.n10;omega
end Prf
namespace L2
open PySem PySem.Spec PyProof.Rows
section
variable {X:Cx} {K:PySem.W.Frag} {H:Hp} {Q:VK} {i:Int} {b:Bool}
end
end L2
namespace Prf
open PySem PySem.Spec PyProof.Rows L2
end Prf
namespace Prf
open PySem PySem.Spec PyProof.Rows L2
theorem filter_range {α:Type} (f:α→Bool) (d:α):∀ xs:List α,((List.range xs.length).filter fun i=>f (xs.getD i d)).length=(xs.filter f).length
 | []=>rfl
 | x::xs=>by
   rw [length_cons,range_succ_eq_map,filter_cons,filter_cons,filter_map];have e:((fun i=>f ((x::xs).getD i d))∘Nat.succ)=fun i=>f (xs.getD i d):=by funext i;rfl
   rw [e];have ih:=filter_range f d xs;show (if f x=true then _ else _:List Nat).length=_;split
   ·rw [length_cons,length_cons,length_map,ih]
   ·rw [length_map,ih]
theorem zlg {K:PySem.W.Frag} {σ:L2.St} {H:Hp} {Q:VK} {js:List Nat} {tc:TT} {a:Addr} {ps:List Addr} {rows:LI} (c:List Int→Bool) (h1:SqL K H a (ps.map V.ref)) (h2:ps.length=rows.length) (hz:rows.length≤1000)
  (ht:∀ i H' (Q':Bool→Hp→Prop),i < rows.length→Same H H'→Q' (c (rows.getD i [])) H'→tc (some (.ref (ps.getD i 0))::capV js σ) H' Q')
  (hq:∀ p H2 zs,H p=none→Same H H2→H2 p=some (.lst zs)→zs.length=(rows.filter c).length→Q (.ref p) H2):zeO (Itl K a) js tc (tVar 0) σ H Q:=by
 have ex:∀ i,i < rows.length→(ps.map V.ref).getD i .non=.ref (ps.getD i 0):=fun i hi=>by
  rw [getD_eq_getElem?_getD,getElem?_map,getElem?_eq_getElem (by omega),getD_eq_getElem?_getD,getElem?_eq_getElem (by omega)];rfl
 have hl:(ps.map V.ref).length=rows.length:=by rw [length_map,h2]
 refine zcw (zbe h1) (by rw [hl];exact za0 hz) (fun i=>c (rows.getD i [])) (fun i=>.ref (ps.getD i 0)) (fun i H' Q' hi s q=>?_) (fun i H' Q' hi s _ q=>?_) fun p hp=>?_
 ·show tc (some ((ps.map V.ref).getD i .non)::capV js σ) H' Q';rw [hl] at hi;rw [ex i hi];exact ht i H' Q' hi s q
 ·show tVar 0 (some ((ps.map V.ref).getD i .non)::capV js σ) H' Q';rw [hl] at hi;rw [ex i hi];exact zd3 (i:=0) rfl q
 ·refine hq p _ _ hp (zaY hp) zaz ?_;rw [length_map,hl,filter_range]
theorem zig {x:Int} {r':List Int}:∀ {rows:LI} {k:Nat},k < rows.length→cntB (rows.set k r') x+(if x∈rows.getD k [] then 1 else 0)=cntB rows x+(if x∈r' then 1 else 0)
 | [],k,h=>absurd h (by simp)
 | r::rs,0,_=>by
   show ((r'::rs).filter _).length+(if x∈r then 1 else 0)=((r::rs).filter _).length+_;rw [filter_cons,filter_cons]
   by_cases h1:x∈r <;> by_cases h2:x∈r' <;> simp [h1,h2]
 | r::rs,k+1,h=>by
   have ih:=zig (x:=x) (r':=r') (rows:=rs) (k:=k) (by simpa using h);unfold cntB at ih ⊢;show ((r::rs.set k r').filter _).length+(if x∈rs.getD k [] then 1 else 0)=((r::rs).filter _).length+_;rw [filter_cons,filter_cons];split
   ·rw [length_cons,length_cons];omega
   ·exact ih
structure Grow (tt nm:LI):Prop where
 len:nm.length=tt.length
 row:∀ k,k < tt.length→∃ z,nm.getD k []=tt.getD k []++z
 cnt:∀ x,cntB tt x≤cntB nm x
theorem Grow.new {tt:LI}:Grow tt tt:=⟨rfl,fun k _=>⟨[],by simp⟩,fun _=>Nat.le_refl _⟩
theorem Grow.named {tt:LI} {st:ExS} {k:Nat} {r p:Int} (G:Grow tt st.nm) (hk:k < st.nm.length):Grow tt (zaH (entS st k r p) k).nm:=by
 by_cases h:0 < zaJ (entS st k r p) k
 ·have hm:(zaH (entS st k r p) k).nm=st.nm.set k (st.nm.getD k []++[zaJ (entS st k r p) k]):=by unfold zaH;rw [if_pos h];rfl
  rw [hm];refine ⟨by rw [length_set];exact G.len,fun i hi=>?_,fun x=>?_⟩
  ·rw [zbn hk];obtain ⟨z,e⟩:=G.row i hi;split
   ·rename_i e';subst e'
    exact ⟨z++[zaJ (entS st i r p) i],by rw [e,append_assoc]⟩
   ·exact ⟨z,e⟩
  ·have:=zig (x:=x) (r':=st.nm.getD k []++[zaJ (entS st k r p) k]) hk;have h2:=G.cnt x;have:x∈st.nm.getD k []→x∈st.nm.getD k []++[zaJ (entS st k r p) k]:=fun z=>mem_append_left _ z;split at * <;> split at * <;> first | omega | (exfalso;simp_all)
 ·have hm:zaH (entS st k r p) k=entS st k r p:=by unfold zaH;rw [if_neg h]
  rw [hm];exact G
def inOf (en:LI) (k:Nat):Nat:=(en.filter fun r=>decide (r.getD 0 0=(k:Int)+1)).length
def Knw (st:ExS):Prop:=∀ k,k < st.nm.length→inOf st.en k=cntE st.nm st.en k
theorem Knw.new {hs:List Int} {rs tt:LI} {stp:Int}:Knw ⟨hs,rs,stp,some (tt,[])⟩:=fun k _=>by
 show 0=cntE tt [] k;unfold cntE;rw [List.filter_eq_nil_iff.mpr (fun r _=>by simp [zdO])];rfl
theorem zki {st:ExS} (W:Wf st) (N:Nam st) {k:Nat} {r p:Int} (hk:k < st.nm.length) (hr:r∈zaF st.nm st.en k) {j:Nat} (hj:j < st.nm.length):cntE (zaH (entS st k r p) k).nm (st.en++[[(k:Int)+1,r,p]]) j=cntE st.nm st.en j+if j=k then 1 else 0:=by
 obtain ⟨hr1,hr2⟩:=mem_filter.mp hr;have hrn:(zaE st.en k r).isSome=false:=by cases h:zaE st.en k r <;> simp_all
 have key:cntE st.nm (st.en++[[(k:Int)+1,r,p]]) k=cntE st.nm st.en k+1:=by
  unfold cntE;exact zkd (W.row k hk).nodup hr1 hrn (by rw [zdP];rfl) (fun x hx=>by rw [zbt (.inr hx)])
 have oth:j≠k→cntE st.nm (st.en++[[(k:Int)+1,r,p]]) j=cntE st.nm st.en j:=fun hj=>by
  unfold cntE
  congr 1
  exact filter_congr fun x _=>by rw [zbt (.inl hj)]
 have base:cntE st.nm (st.en++[[(k:Int)+1,r,p]]) j=cntE st.nm st.en j+if j=k then 1 else 0:=by
  by_cases e:j=k
  ·subst e;rw [if_pos rfl];exact key
  ·rw [if_neg e];exact oth e
 rw [← base];unfold cntE;rw [zeZ (st:=entS st k r p) hk];split
 ·rename_i h2
  obtain ⟨rfl,h0⟩:=h2;rw [filter_append,length_append];have hneed:zbs (entS st j r p) j=true:=by
   unfold zaJ at h0
   cases hn:zbs (entS st j r p) j with
   | true=>rfl
   | false=>rw [hn,if_neg (by decide)] at h0;exact absurd h0 (by decide)
  have ht:zaJ (entS st j r p) j=za7 st.hs st.rs (za1 st.rs st.nm) ((j:Int)+1) (st.nm.getD j []):=by unfold zaJ;rw [hneed];rfl
  have h0':0 < za7 st.hs st.rs (za1 st.rs st.nm) ((j:Int)+1) (st.nm.getD j []):=by rw [← ht];exact h0
  have sp:=zdh h0';rw [← ht] at sp;have hno:zaE (st.en++[[(j:Int)+1,r,p]]) j (zaJ (entS st j r p) j)=none:=by
   rw [zbt (.inr (fun z=>sp.2.2.1 (by rw [z];exact hr1)))]
   cases hh:zaE st.en j (zaJ (entS st j r p) j) with
   | none=>rfl
   | some q=>exact absurd (N j _ (by rw [hh];rfl)) sp.2.2.1
  have:([zaJ (entS st j r p) j].filter fun r'=>(zaE (st.en++[[(j:Int)+1,r,p]]) j r').isSome)=[]:=by
   rw [filter_cons,hno];rfl
  rw [this];rfl
 ·rfl
theorem Knw.enter {st:ExS} (N:Knw st) (R:Nam st) (W:Wf st) {k:Nat} {r p:Int} (hk:k < st.nm.length) (hr:r∈zaF st.nm st.en k):Knw (zaH (entS st k r p) k):=fun j hj=>by
 rw [zeY] at hj;have een:(zaH (entS st k r p) k).en=st.en++[[(k:Int)+1,r,p]]:=by rw [zeC];rfl
 rw [een,zki W R hk hr hj,← N j hj];unfold inOf;rw [filter_append,length_append]
 congr 1
 rw [filter_cons];show (if decide ((k:Int)+1=(j:Int)+1)=true then _ else _:LI).length=_
 by_cases e:j=k
 ·subst e;rw [if_pos rfl,decide_eq_true rfl];rfl
 ·rw [if_neg e,decide_eq_false (by omega)];rfl
theorem Knw.one {st:ExS} (N:Knw st) (R:Nam st) (W:Wf st) {k:Nat} {r p:Int} (hk:k < st.nm.length) (hr:r∈zaF st.nm st.en k) (h:zbs (entS st k r p) k=true):inOf st.en k=1∧(st.nm.getD k []).length=2:=by
 unfold zbs at h;simp only [Bool.and_eq_true,decide_eq_true_eq] at h;obtain ⟨⟨h1,h2⟩,_⟩:=h;have h1':(st.nm.getD k []).length=2:=h1;have h2':zaF st.nm (st.en++[[(k:Int)+1,r,p]]) k=[]:=h2;obtain ⟨hr1,hr2⟩:=mem_filter.mp hr;have hrn:(zaE st.en k r).isSome=false:=by cases h:zaE st.en k r <;> simp_all
 have key:cntE st.nm (st.en++[[(k:Int)+1,r,p]]) k=cntE st.nm st.en k+1:=by
  unfold cntE;exact zkd (W.row k hk).nodup hr1 hrn (by rw [zdP];rfl) (fun x hx=>by rw [zbt (.inr hx)])
 have:=zc9 st.nm (st.en++[[(k:Int)+1,r,p]]) k;rw [h2',length_nil] at this;refine ⟨?_,h1'⟩;rw [N k hk];omega
end Prf
namespace Prf
open PySem PySem.Spec PyProof.Rows L2
def zf5 (en:LI) (k:Nat):List Int:=(en.filter fun r=>decide (r.getD 0 0=(k:Int)+1)).map fun e=>e.getD 2 0
theorem zf6 (en:LI) (k:Nat):(zf5 en k).length=inOf en k:=by unfold zf5 inOf;rw [length_map]
theorem zfG (x y s:Int):zbm x y s=zbm y x s:=by
 unfold zbm;exact decide_eq_decide.mpr (by omega)
theorem zlh {st:ExS} (N:Knw st) (R:Nam st) (W:Wf st) {k:Nat} {r p g:Int} (hk:k < st.nm.length) (hr:r∈zaF st.nm st.en k) (hg:zf5 st.en k=[g]):zbs (entS st k r p) k = !zbm g p st.step:=by
 have h1:inOf st.en k=1:=by rw [← zf6,hg];rfl
 have h2:=N k hk;rw [h1] at h2;obtain ⟨hr1,hr2⟩:=mem_filter.mp hr;have hrn:zaE st.en k r=none:=Option.isNone_iff_eq_none.mp hr2;have hone:∀ x q,zaE st.en k x=some q→q=g:=fun x q hq=>by
  unfold zaE at hq;obtain ⟨e,he,hq'⟩:=Option.map_eq_some_iff.mp hq;have hm:=mem_filter.mp (List.mem_of_getLast? he);have h0:e.getD 0 0=(k:Int)+1:=by have:=hm.2;simp at this;simpa using this.1
  have:e.getD 2 0∈zf5 st.en k:=mem_map.mpr ⟨e,mem_filter.mpr ⟨hm.1,decide_eq_true h0⟩,rfl⟩;rw [hg] at this;rw [← hq'];exact mem_singleton.mp this
 obtain ⟨f,s,f1,f2,f3,hrow | ⟨t,hrow,_,_,_,_,t5,t6⟩⟩:=W.row k hk
 ·unfold cntE at h2;rw [hrow] at h2 hr1;unfold zbs;rw [show (entS st k r p).nm=st.nm from rfl,show (entS st k r p).en=st.en++[[(k:Int)+1,r,p]] from rfl,show (entS st k r p).step=st.step from rfl];unfold zaF ptsOf;rw [hrow];have hfs:f≠s:=by omega
  rcases mem_cons.mp hr1 with z | z
  ·subst z;rw [filter_cons,hrn,filter_cons] at h2
   cases hs:zaE st.en k s with
   | none=>rw [hs] at h2;simp at h2
   | some q =>
     have:=hone s q hs;subst this;have e1:zaE (st.en++[[(k:Int)+1,r,p]]) k r=some p:=zdP;have e2:zaE (st.en++[[(k:Int)+1,r,p]]) k s=some q:=by rw [zbt (.inr (fun z=>hfs z.symm)),hs]
     simp only [filter_cons,e1,e2,map_cons,map_nil,List.filter_nil];show (decide _ && decide _ && !zbm p q st.step)=_;rw [zfG];simp
  ·have z:=mem_singleton.mp z;subst z;rw [filter_cons,filter_cons,hrn] at h2
   cases hs:zaE st.en k f with
   | none=>rw [hs] at h2;simp at h2
   | some q =>
     have:=hone f q hs;subst this;have e1:zaE (st.en++[[(k:Int)+1,r,p]]) k r=some p:=zdP;have e2:zaE (st.en++[[(k:Int)+1,r,p]]) k f=some q:=by rw [zbt (.inr hfs),hs]
     simp only [filter_cons,e1,e2,map_cons,map_nil,List.filter_nil];show (decide _ && decide _ && !zbm q p st.step)=_;simp
 ·unfold cntE at h2;rw [hrow,filter_cons,t5,filter_cons,t6] at h2;simp at h2
theorem zli {st:ExS} (N:Knw st) (R:Nam st) (W:Wf st) {k:Nat} {r p:Int} (hk:k < st.nm.length) (hr:r∈zaF st.nm st.en k) (hg:(zf5 st.en k).length≠1):zbs (entS st k r p) k=false:=by
 cases h:zbs (entS st k r p) k with
 | false=>rfl
 | true=>exact absurd ((zf6 _ _).trans (Knw.one N R W hk hr h).1) hg
section
variable {C:Addr} {H0 H H' H1 H2:Hp} {x p8 p9 pg:Addr} {gs:List Addr} {F F':Addr→Prop} {st st':ExS} {nm en got:LI}
end
end Prf
namespace L2
open PySem PySem.Spec PyProof.Rows
section
variable {σ:St} {H:Hp} {Q:VK} {K:PySem.W.Frag} {js:List Nat} {te:TE} {J:It} {n k:Nat} {g:TG} {w:Nat→St} {x:Nat→V}
end
end L2
namespace Prf
open PySem PySem.Spec PyProof.Rows L2
def emp:Hp:=fun _=>none
theorem Both.weak {C:Addr} {H0 H:Hp} {x:Addr} {F:Addr→Prop} {st:ExS} {l:LdA} (B:Both C H0 H x F st l):Both C emp H x F st l :=
 ⟨B.ex,B.inb,B.dl,B.led,B.nf,(fun _ _ z=>by cases z),(fun _ _ z=>by cases z),(fun _ _=>rfl),B.e3⟩
section
variable {C:Addr} {H H' H1 Hb:Hp} {x m a b c d:Addr} {F F':Addr→Prop} {st:ExS} {l:LdA} {i:Nat} {ps qs:List Addr} {hs:List Int} {rs rows:LI} {stp:Int} {G G' G1:Addr→Prop}
theorem ExAt.has (E:ExAt C H x F st) {b:Addr} (h:F b):∃ o,H b=some o:=by
 cases e:H b with
 | none=>exact absurd h (E.new e)
 | some o=>exact ⟨o,rfl⟩
theorem far (f:ExFr H H' G G') (dis:∀ b,G b→¬G1 b) (has:∀ b,G1 b→∃ o,H b=some o):(∀ b o,G1 b→H b=some o→H' b=some o)∧∀ b,G' b→¬G1 b :=
 ⟨fun b o h e=>f.kp b o e fun z=>dis b z h,fun b h h1=>(f.fp b h).elim (fun z=>dis b z h1) fun z=>by obtain ⟨o,e⟩:=has b h1;rw [z] at e;cases e⟩
theorem zih {o b:Addr} (h:b∈({ l with es:=l.es++[o] }:LdA).all):b∈l.all∨b=o:=by
 unfold LdA.all at h ⊢;simp only [mem_cons,mem_append,not_mem_nil,or_false] at h ⊢;rcases h with h | h | h | h | h | h | h | h
 ·exact .inl (.inl h)
 ·exact .inl (.inr (.inl h))
 ·exact .inl (.inr (.inr (.inl h)))
 ·exact .inl (.inr (.inr (.inr (.inl h))))
 ·exact .inl (.inr (.inr (.inr (.inr (.inl h)))))
 ·exact .inl (.inr (.inr (.inr (.inr (.inr (.inl h))))))
 ·exact .inl (.inr (.inr (.inr (.inr (.inr (.inr h))))))
 ·exact .inr h
end
end Prf
namespace Prf
open PySem PySem.Spec PyProof.Rows L2
abbrev E3:=Nat×Int×Int
def rowE (e:E3):List Int:=[(e.1:Int)+1,e.2.1,e.2.2]
def keyE (e:E3):Nat×Int:=(e.1,e.2.1)
def zbH (st:ExS) (e:E3):ExS:=zaH (entS st e.1 e.2.1 e.2.2) e.1
def okE (st:ExS) (e:E3):Prop:=e.1 < st.nm.length∧e.2.1∈zaF st.nm st.en e.1∧0≤e.2.2∧e.2.2≤100
def runS (st:ExS) (es:List E3):ExS:=es.foldl zbH st
def okS:ExS→List E3→Prop
 | _,[]=>True
 | st,e::es=>okE st e∧okS (zbH st e) es
theorem zdi (st:ExS) (es:List E3) (e:E3):runS st (es++[e])=zbH (runS st es) e:=by unfold runS;rw [List.foldl_append];rfl
theorem ok_snoc:∀ (st:ExS) (es:List E3) (e:E3),okS st (es++[e])↔okS st es∧okE (runS st es) e
 | st,[],e=>⟨fun h=>⟨trivial,h.1⟩,fun h=>⟨h.2,trivial⟩⟩
 | st,a::es,e=>by
   show okE st a∧okS (zbH st a) (es++[e])↔(okE st a∧okS (zbH st a) es)∧okE (runS (zbH st a) es) e;rw [ok_snoc (zbH st a) es e,and_assoc]
theorem zmr {st:ExS}:∀ {es fs:List E3},okS st (es++fs)→okS st es:=fun {es fs} h=>by
 induction es generalizing st with
 | nil=>trivial
 | cons e es ih=>exact ⟨h.1,ih h.2⟩
theorem zms (st:ExS) (e:E3):(zbH st e).en=st.en++[rowE e]:=by unfold zbH;rw [zeC];rfl
theorem zlj (st:ExS) (e:E3):(zbH st e).nm.length=st.nm.length:=by unfold zbH;rw [zeY];rfl
theorem zmt (st:ExS) (e:E3):(zbH st e).hs=st.hs∧(zbH st e).rs=st.rs∧(zbH st e).step=st.step:=by unfold zbH;rw [zf3,zf4,ziN];exact ⟨rfl,rfl,rfl⟩
theorem znR (st:ExS) (es:List E3):(runS st es).en=st.en++es.map rowE:=by
 induction es generalizing st with
 | nil=>show st.en=st.en++[];rw [append_nil]
 | cons e es ih =>
   show (runS (zbH st e) es).en=_;rw [ih,zms,append_assoc];rfl
theorem zda (st:ExS) (es:List E3):(runS st es).hs=st.hs∧(runS st es).rs=st.rs∧(runS st es).step=st.step∧(runS st es).nm.length=st.nm.length:=by
 induction es generalizing st with
 | nil=>exact ⟨rfl,rfl,rfl,rfl⟩
 | cons e es ih =>
   obtain ⟨h1,h2,h3,h4⟩:=ih (zbH st e);obtain ⟨k1,k2,k3⟩:=zmt st e;exact ⟨h1.trans k1,h2.trans k2,h3.trans k3,h4.trans (zlj st e)⟩
theorem zgK (L:List E3) (e:E3) (k:Nat) (r:Int):zaE ((L++[e]).map rowE) k r=if e.1=k∧e.2.1=r then some e.2.2 else zaE (L.map rowE) k r:=by
 rw [map_append];show zaE (L.map rowE++[rowE e]) k r=_;rw [zbR]
 by_cases h:e.1=k∧e.2.1=r
 ·rw [if_pos h,if_pos ⟨by show (e.1:Int)+1=_;rw [h.1],h.2⟩];rfl
 ·rw [if_neg h,if_neg (fun z=>h ⟨by have:(e.1:Int)+1=(k:Int)+1:=z.1;omega,z.2⟩)]
theorem zf7 {P:List E3→Prop} (h0:P []) (hs:∀ L e,P L→P (L++[e])):∀ L,P L:=fun L=>by
 have:∀ n,∀ L:List E3,L.length=n→P L:=fun n=>by
  induction n with
  | zero=>intro L h;rw [List.length_eq_zero_iff.mp h];exact h0
  | succ n ih =>
    intro L h;have hne:L≠[]:=fun z=>by rw [z] at h;cases h
    rw [← List.dropLast_concat_getLast hne];exact hs _ _ (ih _ (by rw [List.length_dropLast];omega))
 exact this _ L rfl
theorem zkj (L:List E3) (k:Nat) (r:Int):(zaE (L.map rowE) k r).isSome=true↔(k,r)∈L.map keyE:=by
 refine zf7 (P:=fun L=>(zaE (L.map rowE) k r).isSome=true↔(k,r)∈L.map keyE) ?_ ?_ L
 ·simp [zdO]
 ·intro L e ih;rw [zgK,map_append,mem_append]
  by_cases h:e.1=k∧e.2.1=r
  ·rw [if_pos h];refine ⟨fun _=>.inr (mem_singleton.mpr ?_),fun _=>rfl⟩;show (k,r)=(e.1,e.2.1);rw [h.1,h.2]
  ·rw [if_neg h,ih];refine ⟨.inl,fun z=>z.elim id fun z=>?_⟩;have:(k,r)=(e.1,e.2.1):=mem_singleton.mp z;exact absurd ⟨(Prod.mk.inj this).1.symm,(Prod.mk.inj this).2.symm⟩ h
theorem zhp {L:List E3} (nd:(L.map keyE).Nodup) (k:Nat) (r p:Int):zaE (L.map rowE) k r=some p↔(k,r,p)∈L:=by
 revert nd
 refine zf7 (P:=fun L=>(L.map keyE).Nodup→(zaE (L.map rowE) k r=some p↔(k,r,p)∈L)) ?_ ?_ L
 ·intro _;simp [zdO]
 ·intro L e ih nd;rw [map_append,nodup_append] at nd;have ih:=ih nd.1;rw [zgK,mem_append]
  by_cases h:e.1=k∧e.2.1=r
  ·rw [if_pos h];constructor
   ·intro z;refine .inr (mem_singleton.mpr ?_);have z:=Option.some.inj z;rw [← h.1,← h.2,← z]
   ·rintro (z | z)
    ·have hk:keyE (k,r,p)∈L.map keyE:=mem_map.mpr ⟨_,z,rfl⟩;exact absurd (by show (k,r)=(e.1,e.2.1);rw [h.1,h.2]) (nd.2.2 _ hk (keyE e) (by simp))
    ·rw [← mem_singleton.mp z]
  ·rw [if_neg h,ih];refine ⟨.inl,fun z=>z.elim id fun z=>?_⟩;have:=mem_singleton.mp z;exact absurd ⟨by rw [← this],by rw [← this]⟩ h
theorem ziO {nm en en':LI} {k:Nat} (h:∀ r,zaE en k r=zaE en' k r):zaF nm en k=zaF nm en' k:=by
 unfold zaF;exact filter_congr fun r _=>by rw [h r]
theorem zkk {nm en en':LI} {k:Nat} (h:∀ r,zaE en k r=zaE en' k r):ptsOf nm en k=ptsOf nm en' k:=by
 unfold ptsOf;exact map_congr_left fun r _=>by rw [h r]
theorem zlk (st:ExS) (k:Nat):(zaH st k).nm=if 0 < zaJ st k then st.nm.set k (st.nm.getD k []++[zaJ st k]) else st.nm:=by
 unfold zaH;split <;> rfl
section
variable {hs:List Int} {rs tt:LI} {stp:Int} {tab:Nat→List Int} {ap:Nat→Bool}
def ziP (tt:LI) (tab:Nat→List Int) (e:E3):Prop:=(e.2.1=(tt.getD e.1 []).getD 0 0→e.2.2=(tab e.1).getD 0 0)∧(e.2.1=(tt.getD e.1 []).getD 1 0→e.2.2=(tab e.1).getD 1 0)
abbrev S0 (hs:List Int) (rs tt:LI) (stp:Int):ExS:=⟨hs,rs,stp,some (tt,[])⟩
theorem en0 (L:List E3):(runS (S0 hs rs tt stp) L).en=L.map rowE:=by rw [znR];rfl
theorem keys_nd:∀ {L:List E3},okS (S0 hs rs tt stp) L→(L.map keyE).Nodup:=fun {L}=>by
 refine zf7 (P:=fun L=>okS (S0 hs rs tt stp) L→(L.map keyE).Nodup) (fun _=>nodup_nil) ?_ L;intro L e ih h;obtain ⟨h1,h2⟩:=(ok_snoc _ _ _).mp h;rw [map_append];refine nodup_append.mpr ⟨ih h1,by simp,fun x hx y hy z=>?_⟩;have hy:y=(e.1,e.2.1):=mem_singleton.mp hy;subst hy;have:=(mem_filter.mp h2.2.1).2;rw [en0] at this;have hs':=(zkj L e.1 e.2.1).mpr (z▸hx);rw [Option.isSome_iff_exists] at hs';obtain ⟨q,hq⟩:=hs';rw [hq] at this
 cases this
end
end Prf
namespace L2
open PySem PySem.Spec PyProof.Rows
section
variable {X:Cx}
def rIndex:V→List V→Hp→VK→Prop:=fun x vs H Q=>∃ (l:Addr) (ns:List Int) (i:Int),x=.ref l∧vs=[.int i]∧H l=some (.lst (ns.map V.int))∧i∈ns∧∀ j:Nat,j < ns.length→ns.getD j 0=i→(∀ m,m < j→ns.getD m 0≠i)→Q (.int (j:Int)) H
theorem mt_index:MtM X "list.index" rIndex:=by
 intro pins s σ H x vs v us Q I rx rv h;obtain ⟨l,ns,i,rfl,rfl,hH,hi,q⟩:=h
 cases rx
 obtain ⟨u,rfl,t,rfl⟩:=rv.one;obtain ⟨z,its,n,r,hl,e⟩:=I.lstM hH;rw [length_map] at hl z;obtain ⟨j,hj,e1,e2,e3⟩:=erase_at hi;have hsl:=sizeLine_eq;have at_:∀ (m:Nat) (h:m < its.length),∃ t,its[m]=.int (ns[m]'(by omega)) t:=fun m h=>vals_int_at r m (by omega) h;refine call_meets F.slot_list_index ⟨_,e,rfl⟩ F.entry_list_index (F.args_list_index_2 _ _)
  (MeetsSeq.list_index l its.toArray n (.int i t) (fun y=>match y with | .int a _=>a == i | _=>false) (fun y hy=>?_) j (by simpa using (show j < its.length by omega)) ?_ ?_ (fun m hm hlt=>?_)) ⟨e,?_⟩
 ·obtain ⟨m,hm,rfl⟩:=getElem_of_mem (by simpa using hy:y∈its);obtain ⟨t',et⟩:=at_ m hm;rw [et];exact MeetsSeq.EqGives.int _ _ _ _
 ·omega
 ·obtain ⟨t',et⟩:=at_ j (by omega);rw [List.getElem_toArray,et];simpa using e1
 ·have hm':m < its.length:=by simpa using hm
  obtain ⟨t',et⟩:=at_ m hm';rw [List.getElem_toArray,et];simpa using e2 m (by omega) hlt
 ·refine ⟨.int (j:Int),H,I.tok _,⟨_,rfl⟩,q j hj ?_ fun m hm=>?_⟩
  ·rw [getD_eq_getElem?_getD,getElem?_eq_getElem hj];exact e1
  ·rw [getD_eq_getElem?_getD,getElem?_eq_getElem (by omega)];exact e2 m (by omega) hm
theorem ziQ {H:Hp} {Q:VK} {p:Addr} {ns:List Int} {i:Int} (h:H p=some (.lst (ns.map V.int))) (hi:i∈ns) (q:∀ j:Nat,j < ns.length→ns.getD j 0=i→(∀ m,m < j→ns.getD m 0≠i)→Q (.int (j:Int)) H):rIndex (.ref p) [.int i] H Q:=⟨p,ns,i,rfl,rfl,h,hi,q⟩
end
end L2
namespace Prf
open PySem PySem.Spec PyProof.Rows L2
theorem zmu {st:ExS} {e:E3}:(zbH st e).dl.isSome=true:=by unfold zbH;exact zie rfl
theorem zmv {st:ExS} {e:E3} (W:Wf st) (hd:st.dl.isSome=true) (o:okE st e):Wf (zbH st e):=by
 obtain ⟨hk,hr,p0,p1⟩:=o;have W1:=zmp W hd (k:=e.1) (r:=e.2.1) (p:=e.2.2) ⟨p0,p1⟩;unfold zbH
 by_cases h:0 < zaJ (entS st e.1 e.2.1 e.2.2) e.1
 ·have h0t:zbs (entS st e.1 e.2.1 e.2.2) e.1=true∧0 < za7 st.hs st.rs (za1 st.rs st.nm) ((e.1:Int)+1) (st.nm.getD e.1 [])∧zaJ (entS st e.1 e.2.1 e.2.2) e.1=za7 st.hs st.rs (za1 st.rs st.nm) ((e.1:Int)+1) (st.nm.getD e.1 []):=by
   have c4':=h;unfold zaJ at c4' ⊢
   cases hn':zbs (entS st e.1 e.2.1 e.2.2) e.1 with
   | true=>rw [hn',if_pos rfl] at c4';rw [if_pos rfl];exact ⟨rfl,c4',rfl⟩
   | false=>rw [hn',if_neg (by decide)] at c4';exact absurd c4' (by decide)
  obtain ⟨hn,h1,h2⟩:=h0t;obtain ⟨s1,s2,s3,s4,s5⟩:=zdh h1;rw [← h2] at s1 s2 s3;unfold zbs at hn;simp only [Bool.and_eq_true,decide_eq_true_eq,Bool.not_eq_true'] at hn;obtain ⟨⟨hl,hw⟩,_⟩:=hn;have hl:(st.nm.getD e.1 []).length=2:=hl;obtain ⟨f,s,hfs⟩:∃ f s,st.nm.getD e.1 []=[f,s]:=by
   match hh:st.nm.getD e.1 [],hl with
   | [f,s],_=>exact ⟨f,s,rfl⟩
  rw [hfs] at s3;have hfs':(entS st e.1 e.2.1 e.2.2).nm.getD e.1 []=[f,s]:=hfs;obtain ⟨pf,hf⟩:=zcH hw (r:=f) (by rw [hfs'];simp);obtain ⟨ps,hs⟩:=zcH hw (r:=s) (by rw [hfs'];simp);unfold zaH;rw [if_pos h];exact Wf.ofThird W1 rfl hk hfs ⟨s1,s2⟩ s3 (by show (zaE (entS st e.1 e.2.1 e.2.2).en e.1 f).isSome=true;rw [hf];rfl) (by show (zaE (entS st e.1 e.2.1 e.2.2).en e.1 s).isSome=true;rw [hs];rfl)
 ·unfold zaH;rw [if_neg h];exact W1
theorem nb_anti:∀ {a b:LI},a.length=b.length→(∀ i,i < a.length→(a.getD i []).length=2)→(∀ i,i < b.length→(b.getD i []).length=2)→nbB a b=true→nbB b a=true→a=b
 | [],[],_,_,_,_,_=>rfl
 | [],_::_,h,_,_,_,_=>by simp at h
 | _::_,[],h,_,_,_,_=>by simp at h
 | x::a,y::b,h,ha,hb,h1,h2=>by
   have x2:x.length=2:=ha 0 (by simp);have y2:y.length=2:=hb 0 (by simp)
   match x,y,x2,y2 with
   | [x0,x1],[y0,y1],_,_ =>
     have h1:(if x0=y0 then (if x1=y1 then nbB a b else decide (x1 < y1)) else decide (x0 < y0))=true:=h1;have h2:(if y0=x0 then (if y1=x1 then nbB b a else decide (y1 < x1)) else decide (y0 < x0))=true:=h2
     by_cases e0:x0=y0
     ·subst e0;rw [if_pos rfl] at h1 h2
      by_cases e1:x1=y1
      ·subst e1;rw [if_pos rfl] at h1 h2;rw [nb_anti (by simpa using h) (fun i hi=>ha (i+1) (by simp;omega)) (fun i hi=>hb (i+1) (by simp;omega)) h1 h2]
      ·rw [if_neg e1] at h1;rw [if_neg (fun z=>e1 z.symm)] at h2;have:=of_decide_eq_true h1;have:=of_decide_eq_true h2;omega
     ·rw [if_neg e0] at h1;rw [if_neg (fun z=>e0 z.symm)] at h2;have:=of_decide_eq_true h1;have:=of_decide_eq_true h2;omega
theorem znS {tt nm:LI} {tab:Nat→List Int} {k j:Nat} {r:Int} (G:Grow tt nm) (hk:k < tt.length) (h2:(tt.getD k []).length=2) (hne:(tt.getD k []).getD 0 0≠(tt.getD k []).getD 1 0) (hj:(nm.getD k []).getD j 0=r) (hm:∀ m,m < j→(nm.getD k []).getD m 0≠r):ziP tt tab (k,r,(tab k).getD j 0):=by
 obtain ⟨z,e⟩:=G.row k hk;obtain ⟨f,s,hfs⟩:∃ f s,tt.getD k []=[f,s]:=by
  match hh:tt.getD k [],h2 with
  | [f,s],_=>exact ⟨f,s,rfl⟩
 rw [hfs] at e hne;have e0:(nm.getD k []).getD 0 0=f:=by rw [e];rfl
 have e1:(nm.getD k []).getD 1 0=s:=by rw [e];rfl
 refine ⟨fun h=>?_,fun h=>?_⟩
 ·have hrf:r=f:=by have:r=(tt.getD k []).getD 0 0:=h;rw [hfs] at this;exact this
  match j,hm with
  | 0,_=>rfl
  | j+1,hm=>exact absurd (e0.trans hrf.symm) (hm 0 (by omega))
 ·have hrs:r=s:=by have:r=(tt.getD k []).getD 1 0:=h;rw [hfs] at this;exact this
  match j,hm,hj with
  | 0,_,hj=>exact absurd (e0.symm.trans (hj.trans hrs)) hne
  | 1,_,_=>rfl
  | j+2,hm,_=>exact absurd (e1.trans hrs.symm) (hm 1 (by omega))
theorem ziR {nm en en':LI} {s:Int} (h:∀ k r,zaE en k r=zaE en' k r) (k:Nat):zbM nm en s k=zbM nm en' s k:=by
 unfold zbM;rw [ziO (h k),zkk (h k)]
end Prf
namespace Prf
open PySem PySem.Spec PyProof.Rows L2
def zkl (hs:List Int) (rs:LI) (nm:LI) (k:Nat):LI :=
 if 0 < za7 hs rs (za1 rs nm) ((k:Int)+1) (nm.getD k []) then nm.set k (nm.getD k []++[za7 hs rs (za1 rs nm) ((k:Int)+1) (nm.getD k [])]) else nm
def zbS (ap:Nat→Bool) (en:LI) (k:Nat):Bool:=decide (inOf en k=1) && ap k
theorem zmw (L:List E3) (e:E3) (j:Nat):inOf ((L++[e]).map rowE) j=inOf (L.map rowE) j+if j=e.1 then 1 else 0:=by
 unfold inOf;rw [map_append,filter_append,length_append]
 congr 1
 by_cases h:j=e.1
 ·rw [if_pos h,h];show (List.filter _ [rowE e]).length=1;rw [filter_cons,if_pos (by unfold rowE;simp)];rfl
 ·rw [if_neg h];show (List.filter _ [rowE e]).length=0;rw [filter_cons,if_neg (by unfold rowE;simp;omega)];rfl
section
variable {hs:List Int} {rs tt:LI} {stp:Int} {tab:Nat→List Int}
def apT (tab:Nat→List Int) (stp:Int) (k:Nat):Bool:=!zbm ((tab k).getD 0 0) ((tab k).getD 1 0) stp
theorem zkm {L:List E3} {e:E3} (h2:∀ k,k < tt.length→(tt.getD k []).length=2) (hne:∀ k,k < tt.length→(tt.getD k []).getD 0 0≠(tt.getD k []).getD 1 0) (ok:okS (S0 hs rs tt stp) (L++[e])) (hp:∀ x∈L++[e],ziP tt tab x) (KN:Knw (runS (S0 hs rs tt stp) L)) (NM:Nam (runS (S0 hs rs tt stp) L)) (W:Wf (runS (S0 hs rs tt stp) L)) (G:Grow tt (runS (S0 hs rs tt stp) L).nm) :
  (zbH (runS (S0 hs rs tt stp) L) e).nm=if zbS (apT tab stp) (L.map rowE) e.1=true then zkl hs rs (runS (S0 hs rs tt stp) L).nm e.1 else (runS (S0 hs rs tt stp) L).nm:=by
 obtain ⟨okL,o1,o2,_,_⟩:=(ok_snoc _ _ _).mp ok;obtain ⟨g1,g2,g3,g4⟩:=zda (S0 hs rs tt stp) L;have gen:=en0 (hs:=hs) (rs:=rs) (tt:=tt) (stp:=stp) L;have nd:=keys_nd ok;have g3:(runS (S0 hs rs tt stp) L).step=stp:=g3;have g4:(runS (S0 hs rs tt stp) L).nm.length=tt.length:=g4;have hk:e.1 < tt.length:=by rw [← g4];exact o1
 have hneed:zbs (entS (runS (S0 hs rs tt stp) L) e.1 e.2.1 e.2.2) e.1=zbS (apT tab stp) (L.map rowE) e.1:=by
  unfold zbS
  by_cases hin:inOf (L.map rowE) e.1=1
  ·rw [decide_eq_true hin,Bool.true_and];obtain ⟨g,hg⟩:∃ g,zf5 (L.map rowE) e.1=[g]:=by
    have hl:=zf6 (L.map rowE) e.1;rw [hin] at hl
    match hh:zf5 (L.map rowE) e.1,hl with
    | [g],_=>exact ⟨g,rfl⟩
   have hn:=zlh KN NM W (p:=e.2.2) o1 o2 (by rw [gen];exact hg);rw [hn,g3];have hgm:g∈zf5 (L.map rowE) e.1:=by rw [hg];simp
   unfold zf5 at hgm;obtain ⟨row,hrow,hr2⟩:=mem_map.mp hgm;obtain ⟨hrm,hrk⟩:=mem_filter.mp hrow;obtain ⟨e',he',rfl⟩:=mem_map.mp hrm;have hk':e'.1=e.1:=by
    have:(e'.1:Int)+1=(e.1:Int)+1:=of_decide_eq_true hrk;omega
   have hg':e'.2.2=g:=hr2;obtain ⟨f,s,hfs⟩:∃ f s,tt.getD e.1 []=[f,s]:=by
    match hh:tt.getD e.1 [],h2 _ hk with
    | [f,s],_=>exact ⟨f,s,rfl⟩
   have hfne:f≠s:=by have:=hne _ hk;rw [hfs] at this;exact this
   have hrw:(runS (S0 hs rs tt stp) L).nm.getD e.1 []=[f,s]:=by
    obtain ⟨z,ez⟩:=G.row e.1 hk;rw [hfs] at ez;obtain ⟨f',s',_,_,_,h4 | ⟨t,h4,_,_,_,_,t5,t6⟩⟩:=W.row e.1 o1
    ·rw [h4] at ez
     match z,ez with
     | [],ez=>rw [h4];exact ez
    ·have hc:=KN e.1 o1;rw [gen,hin] at hc;unfold cntE at hc;rw [gen] at t5 t6;rw [h4,filter_cons,t5,filter_cons,t6] at hc;simp at hc
   have hr1:=(mem_filter.mp o2).1;rw [hrw] at hr1;have hr0:=NM e.1 e'.2.1 (by rw [gen];exact (zkj L e.1 e'.2.1).mpr (by rw [← hk'];exact mem_map.mpr ⟨e',he',rfl⟩));rw [hrw] at hr0;have hdif:e'.2.1≠e.2.1:=fun z=>by
    rw [map_append,nodup_append] at nd;exact nd.2.2 (keyE e') (mem_map.mpr ⟨e',he',rfl⟩) (keyE e) (by simp) (by show (e'.1,e'.2.1)=(e.1,e.2.1);rw [hk',z])
   have q0:=hp e (by simp);have q1:=hp e' (mem_append_left _ he');unfold ziP at q0 q1;rw [hk'] at q1;rw [hfs] at q0 q1;unfold apT;simp only [mem_cons,not_mem_nil,or_false] at hr1 hr0;rcases hr1 with a1 | a1 <;> rcases hr0 with b1 | b1
   ·exact absurd (b1.trans a1.symm) hdif
   ·rw [← hg',q1.2 b1,q0.1 a1,zfG]
   ·rw [← hg',q1.1 b1,q0.2 a1]
   ·exact absurd (b1.trans a1.symm) hdif
  ·rw [decide_eq_false hin,Bool.false_and];exact zli KN NM W o1 o2 (by rw [gen,zf6];exact hin)
 unfold zbH;rw [zlk];unfold zaJ;rw [hneed]
 cases zbS (apT tab stp) (L.map rowE) e.1 with
 | false =>
   refine Eq.trans (if_neg ?_) rfl;simp
 | true =>
   rw [if_pos rfl,if_pos rfl];unfold zkl;rw [show (entS (runS (S0 hs rs tt stp) L) e.1 e.2.1 e.2.2).hs=hs from g1,show (entS (runS (S0 hs rs tt stp) L) e.1 e.2.1 e.2.2).rs=rs from g2,show zf0 (entS (runS (S0 hs rs tt stp) L) e.1 e.2.1 e.2.2)=za1 rs (runS (S0 hs rs tt stp) L).nm from by unfold zf0;rw [show (entS (runS (S0 hs rs tt stp) L) e.1 e.2.1 e.2.2).rs=rs from g2];rfl];rfl
def ze2 (nm:LI) (tab:Nat→List Int) (x:E3):Prop:=∃ j,j < (nm.getD x.1 []).length∧(nm.getD x.1 []).getD j 0=x.2.1∧(∀ m,m < j→(nm.getD x.1 []).getD m 0≠x.2.1)∧x.2.2=(tab x.1).getD j 0
theorem zll {st:ExS} {e:E3} (hk:e.1 < st.nm.length) (k:Nat):∃ w,(zbH st e).nm.getD k []=st.nm.getD k []++w:=by
 have h:=zeZ (st:=entS st e.1 e.2.1 e.2.2) (k:=e.1) (j:=k) hk;unfold zbH;rw [h];split
 ·rename_i hh
  exact ⟨[zaJ (entS st e.1 e.2.1 e.2.2) e.1],by rw [hh.1];rfl⟩
 ·exact ⟨[],by rw [append_nil];rfl⟩
theorem ze2.next {st:ExS} {e x:E3} (hk:e.1 < st.nm.length) (h:ze2 st.nm tab x):ze2 (zbH st e).nm tab x:=by
 obtain ⟨w,ew⟩:=zll (st:=st) (e:=e) hk x.1;obtain ⟨j,h1,h2,h3,h4⟩:=h;refine ⟨j,by rw [ew,length_append];omega,by rw [ew,zaB h1];exact h2,fun m hm=>?_,h4⟩;rw [ew,zaB (by omega)];exact h3 m hm
structure Lat (hs:List Int) (rs tt:LI) (stp:Int) (tab:Nat→List Int) (L:List E3) (la:List Nat):Prop where
 ok:okS (S0 hs rs tt stp) L
 pt:∀ x∈L,ziP tt tab x
 run:Run (runS (S0 hs rs tt stp) L) L.length
 kn:Knw (runS (S0 hs rs tt stp) L)
 gr:Grow tt (runS (S0 hs rs tt stp) L).nm
 nm:(runS (S0 hs rs tt stp) L).nm=la.foldl (zkl hs rs) tt
 mem:∀ k,k∈la↔(apT tab stp k=true∧2≤inOf (L.map rowE) k)
 nd:la.Nodup
 ll:la.length≤L.length
 pl:∀ x∈L,ze2 (runS (S0 hs rs tt stp) L).nm tab x
theorem Lat.new:Lat hs rs tt stp tab [] []:=⟨trivial,fun x hx=>absurd hx (by simp),Run.new,Knw.new,Grow.new,rfl,fun k=>by simp [inOf],nodup_nil,Nat.le_refl _,fun x hx=>absurd hx (by simp)⟩
theorem Lat.step {L:List E3} {la:List Nat} {e:E3} (T:Lat hs rs tt stp tab L la) (W0:Wf (S0 hs rs tt stp)) (h2:∀ k,k < tt.length→(tt.getD k []).length=2) (hne:∀ k,k < tt.length→(tt.getD k []).getD 0 0≠(tt.getD k []).getD 1 0) (o:okE (runS (S0 hs rs tt stp) L) e) (hp:ziP tt tab e) (hpl:ze2 (runS (S0 hs rs tt stp) L).nm tab e):Lat hs rs tt stp tab (L++[e]) (la++if zbS (apT tab stp) (L.map rowE) e.1=true then [e.1] else []):=by
 have ok':=(ok_snoc _ _ _).mpr ⟨T.ok,o⟩;have hp':∀ x∈L++[e],ziP tt tab x:=fun x hx=>by
  rcases mem_append.mp hx with z | z
  ·exact T.pt x z
  ·rw [mem_singleton.mp z];exact hp
 have W:Wf (runS (S0 hs rs tt stp) L)∧(runS (S0 hs rs tt stp) L).dl.isSome=true:=by
  have:∀ {st:ExS} (es:List E3),Wf st→st.dl.isSome=true→okS st es→Wf (runS st es)∧(runS st es).dl.isSome=true:=fun {st} es=>by
   induction es generalizing st with
   | nil=>intro W hd _;exact ⟨W,hd⟩
   | cons e es ih=>intro W hd o;exact ih (st:=zbH st e) (zmv W hd o.1) zmu o.2
  exact this L W0 rfl T.ok
 have ls:=zkm h2 hne ok' hp' T.kn T.run.nam W.1 T.gr;have hin:=fun j=>zmw L e j;refine ⟨ok',hp',by rw [zdi,length_append,length_singleton];exact T.run.enter W.1 o.1 o.2.1,by rw [zdi];exact T.kn.enter T.run.nam W.1 o.1 o.2.1,by rw [zdi];exact T.gr.named o.1,?_,fun k=>?_,?_,by have:=T.ll;rw [length_append,length_append,length_singleton];split <;> simp <;> omega,fun x hx=>?_⟩
 ·rw [zdi,ls,List.foldl_append,← T.nm];split <;> rfl
 ·rw [mem_append,T.mem k,hin k]
  cases hl:zbS (apT tab stp) (L.map rowE) e.1 with
  | true =>
    rw [if_pos rfl];unfold zbS at hl;simp only [Bool.and_eq_true,decide_eq_true_eq] at hl
    by_cases hk:k=e.1
    ·subst hk;rw [if_pos rfl];exact ⟨fun _=>⟨hl.2,by omega⟩,fun _=>.inr (by simp)⟩
    ·rw [if_neg hk];exact ⟨fun z=>z.elim id fun z=>absurd (mem_singleton.mp z) hk,fun z=>.inl z⟩
  | false =>
    rw [if_neg (by decide)]
    by_cases hk:k=e.1
    ·subst hk;rw [if_pos rfl];unfold zbS at hl;refine ⟨fun z=>z.elim (fun z=>⟨z.1,by omega⟩) fun z=>absurd z (by simp),fun z=>.inl ⟨z.1,?_⟩⟩;rw [z.1,Bool.and_true] at hl;have:=of_decide_eq_false hl;omega
    ·rw [if_neg hk];exact ⟨fun z=>z.elim id fun z=>absurd z (by simp),fun z=>.inl z⟩
 ·cases hl:zbS (apT tab stp) (L.map rowE) e.1 with
  | false=>rw [if_neg (by decide),append_nil];exact T.nd
  | true =>
    rw [if_pos rfl];refine nodup_append.mpr ⟨T.nd,by simp,fun x hx y hy z=>?_⟩;rw [mem_singleton.mp hy] at z;have:=((T.mem x).mp hx).2;rw [z] at this;unfold zbS at hl;simp only [Bool.and_eq_true,decide_eq_true_eq] at hl;omega
 ·rw [zdi];rcases mem_append.mp hx with z | z
  ·exact (T.pl x z).next o.1
  ·rw [mem_singleton.mp z];exact hpl.next o.1
theorem zmx {L:List E3} (ok:okS (S0 hs rs tt stp) L) {e:E3} (he:e∈L):e.1 < tt.length:=by
 obtain ⟨A1,A2,rfl⟩:=List.append_of_mem he;have o1:okS (S0 hs rs tt stp) (A1++[e]):=zmr (fs:=A2) (by rw [append_assoc];exact ok);have h1:=((ok_snoc _ _ _).mp o1).2.1;rw [(zda (S0 hs rs tt stp) A1).2.2.2] at h1;exact h1
theorem zov {L:List E3} (ok:okS (S0 hs rs tt stp) L) {k:Nat} (h:0 < inOf (L.map rowE) k):k < tt.length:=by
 unfold inOf at h;obtain ⟨row,hrow⟩:=List.exists_mem_of_length_pos h;obtain ⟨h1,h2⟩:=mem_filter.mp hrow;obtain ⟨e,he,rfl⟩:=mem_map.mp h1;have:(e.1:Int)+1=(k:Int)+1:=of_decide_eq_true h2;have:=zmx ok he;omega
theorem Lat.ent {L L2:List E3} {la la2:List Nat} (T:Lat hs rs tt stp tab L la) (T2:Lat hs rs tt stp tab L2 la2) (hn:(runS (S0 hs rs tt stp) L2).nm=(runS (S0 hs rs tt stp) L).nm) (hd:dueB (runS (S0 hs rs tt stp) L).nm (L.map rowE)=[]) (hd2:dueB (runS (S0 hs rs tt stp) L2).nm (L2.map rowE)=[]) (k:Nat) (r:Int):zaE (L2.map rowE) k r=zaE (L.map rowE) k r:=by
 have g4:(runS (S0 hs rs tt stp) L).nm.length=tt.length:=(zda (S0 hs rs tt stp) L).2.2.2;have nd:=keys_nd T.ok;have nd2:=keys_nd T2.ok
 cases h:zaE (L.map rowE) k r with
 | some p =>
   have hm:=(zhp nd _ _ _).mp h;have hk:=zmx T.ok hm;have hk:k < tt.length:=hk;have hr:=T.run.nam k r (by rw [en0,h];rfl);have hw2:=ze0.mp hd2 k (by rw [hn,g4];exact hk);obtain ⟨p2,hp2⟩:=zcH hw2 (r:=r) (by rw [hn];exact hr);rw [hp2];obtain ⟨j,_,h2,h3,h4⟩:=T.pl _ hm;obtain ⟨j2,_,i2,i3,i4⟩:=T2.pl _ ((zhp nd2 _ _ _).mp hp2);rw [hn] at i2 i3;have h2:((runS (S0 hs rs tt stp) L).nm.getD k []).getD j 0=r:=h2;have i2:((runS (S0 hs rs tt stp) L).nm.getD k []).getD j2 0=r:=i2;have h4:p=(tab k).getD j 0:=h4;have i4:p2=(tab k).getD j2 0:=i4;have:j=j2:=by
    rcases Nat.lt_trichotomy j j2 with z | z | z
    ·exact absurd h2 (i3 j z)
    ·exact z
    ·exact absurd i2 (h3 j2 z)
   rw [h4,i4,this]
 | none =>
   cases h2:zaE (L2.map rowE) k r with
   | none=>rfl
   | some p2 =>
     have hm:=(zhp nd2 _ _ _).mp h2;have hk:k < tt.length:=zmx T2.ok hm;have hr:=T2.run.nam k r (by rw [en0,h2];rfl);have hw:=ze0.mp hd k (by rw [g4];exact hk);obtain ⟨p,hp⟩:=zcH hw (r:=r) (by rw [← hn];exact hr);rw [h] at hp;cases hp
theorem Lat.full {L:List E3} {la:List Nat} (T:Lat hs rs tt stp tab L la) (h2:∀ k,k < tt.length→(tt.getD k []).length=2) (hd:dueB (runS (S0 hs rs tt stp) L).nm (L.map rowE)=[]) (k:Nat) (hk:k < tt.length):2≤inOf (L.map rowE) k:=by
 have g4:(runS (S0 hs rs tt stp) L).nm.length=tt.length:=(zda (S0 hs rs tt stp) L).2.2.2;have hw:=ze0.mp hd k (by omega);have hkn:=T.kn k (by omega);rw [en0] at hkn;have hc:=zc9 (runS (S0 hs rs tt stp) L).nm (L.map rowE) k;rw [hw,length_nil] at hc;obtain ⟨z,ez⟩:=T.gr.row k hk;have hl:(tt.getD k []++z).length=(tt.getD k []).length+z.length:=length_append;rw [← ez,h2 k hk] at hl;omega
theorem Lat.same {L L2:List E3} {la la2 z:List Nat} (T:Lat hs rs tt stp tab L la) (T2:Lat hs rs tt stp tab L2 la2) (h2:∀ k,k < tt.length→(tt.getD k []).length=2) (hd:dueB (runS (S0 hs rs tt stp) L).nm (L.map rowE)=[]) (hd2:dueB (runS (S0 hs rs tt stp) L2).nm (L2.map rowE)=[]) (hz:la=la2++z) (hb:∀ k∈la,k < tt.length):la2=la:=by
 have:z=[]:=by
  cases z with
  | nil=>rfl
  | cons k z =>
    have hk:k∈la:=by rw [hz];simp
    have hk2:k∈la2:=(T2.mem k).mpr ⟨((T.mem k).mp hk).1,T2.full h2 hd2 k (hb k hk)⟩;have nd:=T.nd;rw [hz,nodup_append] at nd;exact absurd rfl (nd.2.2 k hk2 k (by simp))
 rw [hz,this,append_nil]
end
end Prf
namespace L2
open PySem PySem.Spec PyProof.Rows
section
variable {P:Program} {w:World} {l:List Env} {H H':Hp} {h0 B h h':Heap}
end
section
variable {P:Program} {w:World} {K:PySem.W.Frag} {mg:Str→Option Value} {base:Heap} {N:List Str} {qual:Str} {scope:Scope} {f:Addr} {cd:Value} {A:Around} {outer:List Env} {s:Shared} {H:Hp} {E:XK}
end
end L2
namespace L2
open PySem PySem.Spec PyProof.Rows
section
variable {P:Program} {w:World} {K:PySem.W.Frag} {mg:Str→Option Value} {base:Heap}
end
section
variable {X:Cx} {pins:List (Addr×Obj)} {σ:St} {H:Hp} {s:Shared}
variable {k:Nat} {f C:Addr} {fd:FuncData} {ps:List Str} {sp:Sp} {x m:Str} {p pos apos:Pos} {e o:Expr} {es:List Expr} {ta:TE} {t:TA}
theorem zmy {body:List Stmt} {h0:ExceptHandler} {hs:List ExceptHandler} {tb:TS} (hno:∀ e s,¬X.xe e s) (hb:PSs X body tb):PS X (.Try body (h0::hs) [] [] pos) tb:=by
 intro pins s σ H D I hq;refine wpAny_Try_except (wpAny_mono (hb pins s σ H D I hq) (fun f s1 z=>?_) fun e s1 z=>(hno e s1 z).elim)
 cases f with
 | next=>exact wpAny_execs_nil z
 | brk=>exact z
 | cont=>exact z
 | ret u=>exact z
end
end L2
namespace L2
open PySem PySem.Spec PyProof.Rows
section
variable {X:Cx} {K:PySem.W.Frag} {C:Addr} {m:Str} {sp:Sp} {ta:TE} {tl:TA} {σ:St} {H:Hp} {Q:VK} {E:XK} {D:Ends} {tb:(Value→Shared→Prop)→List (Addr×Obj)→TS} {th:Value→TS} {ts:TS} {cls:Value}
end
end L2
open PySem PySem.Spec PyProof.Rows L2
local macro_rules | `(tactic| walk_at "ne")=>`(tactic| first | assumption | (exact Ne.symm (by assumption)) | (exact zaj (by assumption) (by assumption)) | (exact Ne.symm (zaj (by assumption) (by assumption))))
local macro_rules | `(tactic| walk_at "hp")=>`(tactic| first | assumption | (exact zaz) | (exact SqL.of zaz) | (exact SqL.of (by assumption)) | (exact Eq.trans (zaR (by walk_at "ne")) (by walk_at "hp")) | (exact SqL.of (Eq.trans (zaR (by walk_at "ne")) (by walk_at "hp"))))
local macro_rules | `(tactic| walk_at "ty")=>`(tactic| first | (exact TyOf.int _) | (exact TyOf.bl _) | (exact TyOf.non) | (exact TyOf.str _) | (exact TyOf.lst (by walk_at "hp")))
local macro_rules | `(tactic| walk_at "ix")=>`(tactic| first | (exact zdg (by omega) (by omega)) | (exact zkL (by omega) (by omega)) | (exact rfl))
local macro_rules | `(tactic| walk_at "rd1")=>`(tactic| first
 | (with_reducible first | refine zjG ?_ | refine zoi ?_ | refine zoj ?_ | refine zoh ?_ | refine zm9 ?_ | refine zna ?_ | refine zmq ?_ | refine r_intI ?_ | refine r_intB ?_ | refine zl0 ?_ | refine r_op ?_) | ((with_reducible refine' zd3 ?rv ?_);(case rv=>exact rfl))
 | (with_reducible first | refine r_c ?_ | refine r_I0 ?_ | refine znf ?_ | refine znK ?_ | refine znL ?_ | refine znN ?_ | refine r_ne2B ?_ | refine r_eqGI ?_ | refine zlw ?_ | refine r_eqGB ?_ | refine r_neGB ?_ | refine r_cb ?_ | refine zfy ?_ | refine zes ?_ | refine zm2 ?_ | refine zod ?_ | refine r_bm ?_ | refine zm5 ?_ | refine zoe ?_ | refine zm6 ?_ | refine zm7 ?_ | refine zm8 ?_ | refine r_tB ?_ | refine zof ?_ | refine r_or ?_ | refine zog ?_ | refine r_if ?_ | refine r_tt ?_ | refine zl1 ?_ | refine zl2 ?_)
 | ((with_reducible refine' znQ ?h1 ?_);(case h1=>walk_at "hp")) | ((with_reducible refine' zkh ?h1 ?_);(case h1=>walk_at "hp"))
 | (with_reducible first | refine r_forZ ?_ | refine zop ?_ | refine znp ?_ | refine znj ?_ | refine znk ?_) | ((with_reducible refine' znl ?h1 ?h2 ?_);(case h1=>omega);(case h2=>omega)) | ((with_reducible refine' r_pow ?h1 ?_);(case h1=>exact ⟨by decide,by decide,by decide⟩))
 | ((with_reducible refine' r_mulB ?h1 ?_);(case h1=>first | (exact .inl (.inr ⟨by decide,by decide⟩)) | (exact .inl (.inl ⟨by omega,by omega⟩)) | (exact .inl (.inr ⟨by omega,by omega⟩)) | (exact .inr ⟨⟨by omega,by omega⟩,by omega,by omega⟩)))
 | (with_reducible first | refine r_lr ?_ | refine r_sl ?_ | refine zma ?_ | refine znm ?_ | refine zmb ?_ | refine zkQ ?_ | refine znn ?_ | refine r_maxD ?_) | ((with_reducible refine' leaf_max ?h1 ?_);(case h1=>walk_at "hp"))
 | (with_reducible first | refine r_for3 ?_ | refine r_tun ?_ | refine r_un ?_ | refine znb ?_ | refine znc ?_ | refine zng ?_ | refine zl3 ?_ | refine zl4 ?_ | refine zl6 ?_ | refine znt ?_ | refine zmh ?_ | refine zmi ?_ | refine zoq ?_ | refine znw ?_ | refine znx ?_ | refine zny ?_ | refine znz ?_ | refine zor ?_ | refine zos ?_ | refine znF ?_ | refine znG ?_ | refine znB ?_)
 | ((with_reducible refine' zk5 ?h1 ?h2 ?h3 ?h4 ?_);(case h1=>assumption);(case h2=>assumption);(case h3=>assumption);(case h4=>assumption))
 | ((with_reducible refine' zom ?h1 ?_);(case h1=>omega)) | ((with_reducible refine' r_div ?h1 ?h2 ?_);(case h1=>omega);(case h2=>omega)) | ((with_reducible refine' r_mul ?h1 ?_);(case h1=>first | (exact .inr ⟨by decide,by decide⟩) | (exact .inl ⟨by omega,by omega⟩) | (exact .inr ⟨by omega,by omega⟩))) | ((with_reducible refine' zon ?h1 ?_);(case h1=>walk_at "hp"))
 | ((with_reducible refine' zeL ?h1 ?h2 ?_);(case h1=>walk_at "hp");(case h2=>walk_at "ix"))
 | ((with_reducible refine' znd ?h1 ?_);(case h1=>walk_at "hp")) | ((with_reducible refine' zne ?h1 ?_);(case h1=>walk_at "hp")) | ((with_reducible refine' zok ?h1 ?_);(case h1=>walk_at "hp"))
 | ((with_reducible refine' zol ?h1 ?h2 ?_);(case h1=>walk_at "ty");(case h2=>rfl)))
local macro_rules | `(tactic| walk_at "rd")=>`(tactic| repeat (walk_at "rd1"))
local macro_rules | `(tactic| walk_at "st")=>`(tactic| repeat ((fail_if_success (with_reducible refine zjG ?_));walk_at "rd1"))
local macro_rules | `(tactic| walk_at "rdk")=>`(tactic| repeat (first | walk_at "rd1" | (with_reducible refine iteF ?_) | (with_reducible refine iteT ?_) | (refine zbk (fun h=>absurd h (by omega)) (fun _=>?_)) | (refine zbk (fun _=>?_) (fun h=>absurd (by omega) h))))
local macro_rules | `(tactic| symm)=>`(tactic| walk_at "rd")
set_option hygiene false
local macro_rules | `(tactic| walk_at "hd")=>`(tactic| (obtain ⟨e,kvs,rfl,hF,I⟩:=E0;have hcl:=T.cl_Exam;have nA:=T.n_Exam_paper_houses;have nB:=T.n_Exam_reader_rows;have nS:=T.n_Exam_widest_step;have nD:=T.n_Exam_is_dealt;have nC:=T.n_Exam_named_readers;have nE:=T.n_Exam_entered_points;have hob:=I.ob;have fA:=@exFs_a (.ref e.a) (.ref e.b) (.int st.step) (.bl st.dl.isSome) (.ref e.c) (.ref e.d);have fB:=@exFs_b (.ref e.a) (.ref e.b) (.int st.step) (.bl st.dl.isSome) (.ref e.c) (.ref e.d);have fS:=@exFs_s (.ref e.a) (.ref e.b) (.int st.step) (.bl st.dl.isSome) (.ref e.c) (.ref e.d);have fD:=@exFs_d (.ref e.a) (.ref e.b) (.int st.step) (.bl st.dl.isSome) (.ref e.c) (.ref e.d);have fC:=@exFs_c (.ref e.a) (.ref e.b) (.int st.step) (.bl st.dl.isSome) (.ref e.c) (.ref e.d);have fE:=@exFs_e (.ref e.a) (.ref e.b) (.int st.step) (.bl st.dl.isSome) (.ref e.c) (.ref e.d);have hha:=I.ha;have hhb:=I.hb;have hhc:=I.hc;have hhd:=I.hd))
set_option hygiene true
namespace Prf
open PySem PySem.Spec PyProof.Rows L2
def top (i:Nat):Stmt:=PySem.Challenge.pw_secondread_k43_whole_disputes.main.body.getD i (.Pass ⟨0,0,0,0⟩)
abbrev s_47:Stmt:=top 45
theorem sc_47:zao ["_law_script","_law_k"] ["_law_script","_law_k"] (zac s_47):=by trivial
abbrev s_52:Stmt:=top 50
theorem sc_52:zao ["_law_script","_law_first","_law_least","_law_shape","_law_count","_law_few","_law_spare_here","_law_staff","_law_homes","_law_rows_here","_law_k","_law_cell","_law_one","_law_two","_law_fit","_law_used"] ["_law_script","_law_first","_law_least"] (zac s_52):=by trivial
abbrev s_63:Stmt:=top 61
theorem sc_63:zao ["_law_cell"] ["_law_cell"] (zac s_63):=by trivial
abbrev s_24:Stmt:=za3 (top 43) 0
theorem sc_24:zao ["self"] ["self"] (zac s_24):=by trivial
abbrev s_39:Stmt:=za3 (top 43) 15
theorem sc_39:zao ["self"] ["self"] (zac s_39):=by trivial
abbrev s_21:Stmt:=top 38
theorem sc_21:zao ["number","most"] ["number","most"] (zac s_21):=by trivial
abbrev s_27:Stmt:=za3 (top 43) 3
theorem sc_27:zao ["self","step"] ["self","step"] (zac s_27):=by trivial
abbrev s_20:Stmt:=top 37
theorem sc_20:zao ["number","least","most"] ["number","least","most"] (zac s_20):=by trivial
abbrev s_22:Stmt:=top 39
theorem sc_22:zao ["many","most"] ["many","most"] (zac s_22):=by trivial
abbrev s_25:Stmt:=za3 (top 43) 1
theorem sc_25:zao ["self","house"] ["self","house"] (zac s_25):=by trivial
abbrev s_26:Stmt:=za3 (top 43) 2
theorem sc_26:zao ["self","house","limit"] ["self","house","limit"] (zac s_26):=by trivial
abbrev s_55:Stmt:=top 53
theorem sc_55:zao ["_law_homes","_law_staff","_law_step_here","_law_turn","_law_exam_here","_law_house","_law_one"] ["_law_homes","_law_staff","_law_step_here","_law_turn"] (zac s_55):=by trivial
abbrev s_49:Stmt:=top 47
theorem sc_49:zao ["_law_found","_law_due"] ["_law_found","_law_due"] (zac s_49):=by trivial
abbrev s_12:Stmt:=top 20
theorem sc_12:zao ["numbers","pairs","place","first","second"] ["numbers"] (zac s_12):=by trivial
abbrev s_1:Stmt:=top 2
theorem sc_1:zao ["papers","readers","paper","reader","reader_house"] ["papers","readers","paper","reader"] (zac s_1):=by trivial
abbrev s_2:Stmt:=top 3
theorem sc_2:zao ["papers","readers","paper"] ["papers","readers","paper"] (zac s_2):=by trivial
abbrev s_9:Stmt:=top 17
theorem sc_9:zao ["rows","reader"] ["rows","reader"] (zac s_9):=by trivial
abbrev s_8:Stmt:=top 16
theorem sc_8:zao ["readers","rows"] ["readers","rows"] (zac s_8):=by trivial
abbrev s_7:Stmt:=top 15
theorem sc_7:zao ["readers","rows"] ["readers","rows"] (zac s_7):=by trivial
abbrev s_Attempt___init__:Stmt:=za3 (top 13) 0
theorem sc_Attempt___init__:zao ["self","papers","readers"] ["self","papers","readers"] (zac s_Attempt___init__):=by trivial
abbrev s_Attempt_free_reading:Stmt:=za3 (top 13) 2
theorem sc_Attempt_free_reading:zao ["self","reader","asked","paper"] ["self","reader","asked"] (zac s_Attempt_free_reading):=by trivial
abbrev s_Attempt_find_reader:Stmt:=za3 (top 13) 1
theorem sc_Attempt_find_reader:zao ["self","paper","asked","reader"] ["self","paper","asked"] (zac s_Attempt_find_reader):=by trivial
abbrev s_3:Stmt:=top 12
theorem sc_3:zao ["papers","readers","attempt","paper","turn"] ["papers","readers"] (zac s_3):=by trivial
abbrev s_14:Stmt:=top 22
theorem sc_14:zao ["readers","limits"] ["readers","limits"] (zac s_14):=by trivial
abbrev s_13:Stmt:=top 21
theorem sc_13:zao ["papers","readers","rows"] ["papers","readers","rows"] (zac s_13):=by trivial
abbrev s_11:Stmt:=top 19
theorem sc_11:zao ["papers","readers","rows","paper","row"] ["papers","readers","rows"] (zac s_11):=by trivial
abbrev s_10:Stmt:=top 18
theorem sc_10:zao ["papers","readers","rows","row"] ["papers","readers"] (zac s_10):=by trivial
abbrev s_28:Stmt:=za3 (top 43) 4
theorem sc_28:zao ["self","rows"] ["self"] (zac s_28):=by trivial
abbrev s_34:Stmt:=za3 (top 43) 10
theorem sc_34:zao ["self"] ["self"] (zac s_34):=by trivial
abbrev s_48:Stmt:=top 46
theorem sc_48:zao ["_law_found"] ["_law_found"] (zac s_48):=by trivial
abbrev s_50:Stmt:=top 48
theorem sc_50:zao ["_law_found","_law_due","_law_k"] ["_law_found","_law_due"] (zac s_50):=by trivial
abbrev s_51:Stmt:=top 49
theorem sc_51:zao ["_law_found","_law_due","_law_k"] ["_law_found","_law_due"] (zac s_51):=by trivial
abbrev s_53:Stmt:=top 51
theorem sc_53:zao ["_law_staff","_law_house","_law_row_here","_law_one"] ["_law_staff","_law_house","_law_row_here"] (zac s_53):=by trivial
abbrev s_54:Stmt:=top 52
theorem sc_54:zao ["_law_homes","_law_staff","_law_rows_here","_law_k"] ["_law_homes","_law_staff","_law_rows_here"] (zac s_54):=by trivial
abbrev s_62:Stmt:=top 60
theorem sc_62:zao ["_law_cell","_law_step_here","_law_given_here","_law_points_here","_law_known","_law_edge"] ["_law_cell","_law_step_here","_law_given_here"] (zac s_62):=by trivial
abbrev s_65:Stmt:=top 63
theorem sc_65:zao ["_law_script","_law_step_here","_law_many","_law_made","_law_k","_law_cell","_law_one","_law_two"] ["_law_script","_law_step_here","_law_many"] (zac s_65):=by trivial
abbrev s_56:Stmt:=top 54
theorem sc_56:zao ["_law_names","_law_entries","_law_paper","_law_found","_law_reader","_law_points_here","_law_one"] ["_law_names","_law_entries","_law_paper"] (zac s_56):=by trivial
abbrev s_57:Stmt:=top 55
theorem sc_57:zao ["_law_names","_law_entries","_law_rows_here","_law_k","_law_given_here","_law_wanted","_law_reader"] ["_law_names","_law_entries"] (zac s_57):=by trivial
abbrev s_66:Stmt:=top 64
theorem sc_66:zao ["_law_step_here","_law_table_here","_law_entries","_law_one","_law_two","_law_known"] ["_law_step_here","_law_table_here","_law_entries","_law_one"] (zac s_66):=by trivial
abbrev s_40:Stmt:=za3 (top 43) 16
theorem sc_40:zao ["self"] ["self"] (zac s_40):=by trivial
abbrev s_42:Stmt:=za3 (top 43) 18
theorem sc_42:zao ["self","paper","entered"] ["self","paper"] (zac s_42):=by trivial
abbrev s_41:Stmt:=za3 (top 43) 17
theorem sc_41:zao ["self","paper","reader"] ["self","paper","reader"] (zac s_41):=by trivial
abbrev s_43:Stmt:=za3 (top 43) 19
theorem sc_43:zao ["self","paper","entered"] ["self","paper"] (zac s_43):=by trivial
abbrev s_17:Stmt:=top 33
theorem sc_17:zao ["one","other","step"] ["one","other","step"] (zac s_17):=by trivial
abbrev s_46:Stmt:=za3 (top 43) 22
theorem sc_46:zao ["self","paper","points"] ["self","paper"] (zac s_46):=by trivial
abbrev s_23:Stmt:=top 41
theorem sc_23:zao ["papers","readers","left","paper","row","reader"] ["papers","readers","left","paper","row"] (zac s_23):=by trivial
abbrev s_38:Stmt:=za3 (top 43) 14
theorem sc_38:zao ["self"] ["self"] (zac s_38):=by trivial
abbrev s_45:Stmt:=za3 (top 43) 21
theorem sc_45:zao ["self","paper","named","third"] ["self","paper"] (zac s_45):=by trivial
abbrev s_29:Stmt:=za3 (top 43) 5
theorem sc_29:zao ["self","paper","reader","points"] ["self","paper","reader","points"] (zac s_29):=by trivial
abbrev s_59:Stmt:=top 57
theorem sc_59:zao ["_law_staff","_law_names","_law_left","_law_k"] ["_law_staff","_law_names"] (zac s_59):=by trivial
abbrev s_60:Stmt:=top 58
theorem sc_60:zao ["_law_homes","_law_staff","_law_names","_law_paper","_law_left","_law_k","_law_fresh"] ["_law_homes","_law_staff","_law_names","_law_paper"] (zac s_60):=by trivial
abbrev s_61:Stmt:=top 59
theorem sc_61:zao ["_law_homes","_law_staff","_law_step_here","_law_names","_law_entries","_law_one","_law_given_here","_law_third_here"] ["_law_homes","_law_staff","_law_step_here","_law_names","_law_entries","_law_one"] (zac s_61):=by trivial
abbrev s_67:Stmt:=top 65
theorem sc_67:zao ["_law_exam_here","_law_made","_law_step_here","_law_names","_law_table_here","_law_entries","_law_one","_law_spot","_law_points_here","_law_found","_law_due"] ["_law_exam_here","_law_made","_law_step_here","_law_names","_law_table_here","_law_entries","_law_one"] (zac s_67):=by trivial
abbrev s_68:Stmt:=top 66
theorem sc_68:zao ["_law_exam_here","_law_made","_law_step_here","_law_names","_law_table_here","_law_order","_law_cells","_law_entries","_law_late_here","_law_cell","_law_fit","_law_one","_law_free"] ["_law_exam_here","_law_made","_law_step_here","_law_names","_law_table_here","_law_order","_law_cells"] (zac s_68):=by trivial
abbrev s_36:Stmt:=za3 (top 43) 12
theorem sc_36:zao ["self","rows","paper"] ["self"] (zac s_36):=by trivial
abbrev s_58:Stmt:=top 56
theorem sc_58:zao ["_law_given_here","_law_step_here"] ["_law_given_here","_law_step_here"] (zac s_58):=by trivial
abbrev s_64:Stmt:=top 62
theorem sc_64:zao ["_law_found","_law_names","_law_entries","_law_step_here","_law_k","_law_given_here","_law_readings"] ["_law_found","_law_names","_law_entries","_law_step_here"] (zac s_64):=by trivial
abbrev s_16:Stmt:=top 32
theorem sc_16:zao ["one","other","divisor","rest","next_rest"] ["one","other"] (zac s_16):=by trivial
abbrev s_15:Stmt:=top 31
theorem sc_15:zao ["top","bottom","divisor"] ["top","bottom"] (zac s_15):=by trivial
abbrev s_19:Stmt:=top 35
theorem sc_19:zao ["points"] ["points"] (zac s_19):=by trivial
abbrev s_18:Stmt:=top 34
theorem sc_18:zao ["points","step"] ["points","step"] (zac s_18):=by trivial
abbrev s_44:Stmt:=za3 (top 43) 20
theorem sc_44:zao ["self","paper","points","readings"] ["self","paper"] (zac s_44):=by trivial
abbrev s_37:Stmt:=za3 (top 43) 13
theorem sc_37:zao ["self"] ["self"] (zac s_37):=by trivial
abbrev s_69:Stmt:=top 67
theorem sc_69:zao ["_law_script","_law_made","_law_step_here","_law_exams","_law_names","_law_table_here","_law_cells","_law_first","_law_exam_here"] ["_law_script"] (zac s_69):=by trivial
set_option genInjectivity false in
set_option genSizeOf false in
structure Adr where
 f_47:Addr
 d_47:FuncData
 f_52:Addr
 d_52:FuncData
 f_63:Addr
 d_63:FuncData
 f_24:Addr
 d_24:FuncData
 f_39:Addr
 d_39:FuncData
 f_21:Addr
 d_21:FuncData
 f_27:Addr
 d_27:FuncData
 f_20:Addr
 d_20:FuncData
 f_22:Addr
 d_22:FuncData
 f_25:Addr
 d_25:FuncData
 f_26:Addr
 d_26:FuncData
 f_55:Addr
 d_55:FuncData
 f_49:Addr
 d_49:FuncData
 f_12:Addr
 d_12:FuncData
 f_1:Addr
 d_1:FuncData
 f_2:Addr
 d_2:FuncData
 f_9:Addr
 d_9:FuncData
 f_8:Addr
 d_8:FuncData
 f_7:Addr
 d_7:FuncData
 f_Attempt___init__:Addr
 d_Attempt___init__:FuncData
 f_Attempt_free_reading:Addr
 d_Attempt_free_reading:FuncData
 f_Attempt_find_reader:Addr
 d_Attempt_find_reader:FuncData
 f_3:Addr
 d_3:FuncData
 f_14:Addr
 d_14:FuncData
 f_13:Addr
 d_13:FuncData
 f_11:Addr
 d_11:FuncData
 f_10:Addr
 d_10:FuncData
 f_28:Addr
 d_28:FuncData
 f_34:Addr
 d_34:FuncData
 f_48:Addr
 d_48:FuncData
 f_50:Addr
 d_50:FuncData
 f_51:Addr
 d_51:FuncData
 f_53:Addr
 d_53:FuncData
 f_54:Addr
 d_54:FuncData
 f_62:Addr
 d_62:FuncData
 f_65:Addr
 d_65:FuncData
 f_56:Addr
 d_56:FuncData
 f_57:Addr
 d_57:FuncData
 f_66:Addr
 d_66:FuncData
 f_40:Addr
 d_40:FuncData
 f_42:Addr
 d_42:FuncData
 f_41:Addr
 d_41:FuncData
 f_43:Addr
 d_43:FuncData
 f_17:Addr
 d_17:FuncData
 f_46:Addr
 d_46:FuncData
 f_23:Addr
 d_23:FuncData
 f_38:Addr
 d_38:FuncData
 f_45:Addr
 d_45:FuncData
 f_29:Addr
 d_29:FuncData
 f_59:Addr
 d_59:FuncData
 f_60:Addr
 d_60:FuncData
 f_61:Addr
 d_61:FuncData
 f_67:Addr
 d_67:FuncData
 f_68:Addr
 d_68:FuncData
 f_36:Addr
 d_36:FuncData
 f_58:Addr
 d_58:FuncData
 f_64:Addr
 d_64:FuncData
 f_16:Addr
 d_16:FuncData
 f_15:Addr
 d_15:FuncData
 f_19:Addr
 d_19:FuncData
 f_18:Addr
 d_18:FuncData
 f_44:Addr
 d_44:FuncData
 f_37:Addr
 d_37:FuncData
 f_69:Addr
 d_69:FuncData
 C_Attempt:Addr
 C_Exam:Addr
 k_READERS_EACH:Value
 k_MOST_HOUSES:Value
 k_MOST_PAPERS:Value
 k_MOST_LIMIT:Value
 k_MOST_READERS:Value
 k_MOST_STEP:Value
 k_MOST_POINTS:Value
set_option genInjectivity false in
set_option genSizeOf false in
structure Txt (K:PySem.W.Frag) (mg:Str→Option Value) (t:Adr):Prop where
 F_47:Fun K "_law_at" "_law_at" s_47 t.f_47 t.d_47
 b_47:Binds K t.d_47 ["_law_script","_law_k"] []
 m_47:mg "_law_at"=some (.ref t.f_47)
 F_52:Fun K "_law_planted" "_law_planted" s_52 t.f_52 t.d_52
 b_52:Binds K t.d_52 ["_law_script","_law_first","_law_least"] []
 m_52:mg "_law_planted"=some (.ref t.f_52)
 F_63:Fun K "_law_step" "_law_step" s_63 t.f_63 t.d_63
 b_63:Binds K t.d_63 ["_law_cell"] []
 m_63:mg "_law_step"=some (.ref t.f_63)
 F_24:Fun K "__init__" "Exam.__init__" s_24 t.f_24 t.d_24
 b_24:Binds K t.d_24 ["self"] []
 mk_Exam:Mk K t.C_Exam t.f_24
 F_39:Fun K "refuse_behind_dealing" "Exam.refuse_behind_dealing" s_39 t.f_39 t.d_39
 b_39:Binds K t.d_39 ["self"] []
 me_39:Meth K t.C_Exam "refuse_behind_dealing" t.f_39
 F_21:Fun K "refuse_out_of_bounds" "refuse_out_of_bounds" s_21 t.f_21 t.d_21
 b_21:Binds K t.d_21 ["number","most"] []
 m_21:mg "refuse_out_of_bounds"=some (.ref t.f_21)
 F_27:Fun K "set_step" "Exam.set_step" s_27 t.f_27 t.d_27
 b_27:Binds K t.d_27 ["self","step"] []
 me_27:Meth K t.C_Exam "set_step" t.f_27
 F_20:Fun K "refuse_unknown" "refuse_unknown" s_20 t.f_20 t.d_20
 b_20:Binds K t.d_20 ["number","least","most"] []
 m_20:mg "refuse_unknown"=some (.ref t.f_20)
 F_22:Fun K "refuse_full" "refuse_full" s_22 t.f_22 t.d_22
 b_22:Binds K t.d_22 ["many","most"] []
 m_22:mg "refuse_full"=some (.ref t.f_22)
 F_25:Fun K "bring_paper" "Exam.bring_paper" s_25 t.f_25 t.d_25
 b_25:Binds K t.d_25 ["self","house"] []
 me_25:Meth K t.C_Exam "bring_paper" t.f_25
 F_26:Fun K "bring_reader" "Exam.bring_reader" s_26 t.f_26 t.d_26
 b_26:Binds K t.d_26 ["self","house","limit"] []
 me_26:Meth K t.C_Exam "bring_reader" t.f_26
 F_55:Fun K "_law_exam" "_law_exam" s_55 t.f_55 t.d_55
 b_55:Binds K t.d_55 ["_law_homes","_law_staff","_law_step_here","_law_turn"] []
 m_55:mg "_law_exam"=some (.ref t.f_55)
 F_49:Fun K "_law_truth" "_law_truth" s_49 t.f_49 t.d_49
 b_49:Binds K t.d_49 ["_law_found","_law_due"] []
 m_49:mg "_law_truth"=some (.ref t.f_49)
 F_12:Fun K "pairs_of" "pairs_of" s_12 t.f_12 t.d_12
 b_12:Binds K t.d_12 ["numbers"] []
 m_12:mg "pairs_of"=some (.ref t.f_12)
 F_1:Fun K "may_read" "may_read" s_1 t.f_1 t.d_1
 b_1:Binds K t.d_1 ["papers","readers","paper","reader"] []
 m_1:mg "may_read"=some (.ref t.f_1)
 F_2:Fun K "readers_for" "readers_for" s_2 t.f_2 t.d_2
 b_2:Binds K t.d_2 ["papers","readers","paper"] []
 m_2:mg "readers_for"=some (.ref t.f_2)
 F_9:Fun K "times_in" "times_in" s_9 t.f_9 t.d_9
 b_9:Binds K t.d_9 ["rows","reader"] []
 m_9:mg "times_in"=some (.ref t.f_9)
 F_8:Fun K "left_after" "left_after" s_8 t.f_8 t.d_8
 b_8:Binds K t.d_8 ["readers","rows"] []
 m_8:mg "left_after"=some (.ref t.f_8)
 F_7:Fun K "keeps_to_limits" "keeps_to_limits" s_7 t.f_7 t.d_7
 b_7:Binds K t.d_7 ["readers","rows"] []
 m_7:mg "keeps_to_limits"=some (.ref t.f_7)
 F_Attempt___init__:Fun K "__init__" "Attempt.__init__" s_Attempt___init__ t.f_Attempt___init__ t.d_Attempt___init__
 b_Attempt___init__:Binds K t.d_Attempt___init__ ["self","papers","readers"] []
 mk_Attempt:Mk K t.C_Attempt t.f_Attempt___init__
 F_Attempt_free_reading:Fun K "free_reading" "Attempt.free_reading" s_Attempt_free_reading t.f_Attempt_free_reading t.d_Attempt_free_reading
 b_Attempt_free_reading:Binds K t.d_Attempt_free_reading ["self","reader","asked"] []
 me_Attempt_free_reading:Meth K t.C_Attempt "free_reading" t.f_Attempt_free_reading
 F_Attempt_find_reader:Fun K "find_reader" "Attempt.find_reader" s_Attempt_find_reader t.f_Attempt_find_reader t.d_Attempt_find_reader
 b_Attempt_find_reader:Binds K t.d_Attempt_find_reader ["self","paper","asked"] []
 me_Attempt_find_reader:Meth K t.C_Attempt "find_reader" t.f_Attempt_find_reader
 F_3:Fun K "readers_suffice" "readers_suffice" s_3 t.f_3 t.d_3
 b_3:Binds K t.d_3 ["papers","readers"] []
 m_3:mg "readers_suffice"=some (.ref t.f_3)
 F_14:Fun K "with_limits" "with_limits" s_14 t.f_14 t.d_14
 b_14:Binds K t.d_14 ["readers","limits"] []
 m_14:mg "with_limits"=some (.ref t.f_14)
 F_13:Fun K "can_go_on" "can_go_on" s_13 t.f_13 t.d_13
 b_13:Binds K t.d_13 ["papers","readers","rows"] []
 m_13:mg "can_go_on"=some (.ref t.f_13)
 F_11:Fun K "first_row_behind" "first_row_behind" s_11 t.f_11 t.d_11
 b_11:Binds K t.d_11 ["papers","readers","rows"] []
 m_11:mg "first_row_behind"=some (.ref t.f_11)
 F_10:Fun K "first_dealing" "first_dealing" s_10 t.f_10 t.d_10
 b_10:Binds K t.d_10 ["papers","readers"] []
 m_10:mg "first_dealing"=some (.ref t.f_10)
 F_28:Fun K "deal" "Exam.deal" s_28 t.f_28 t.d_28
 b_28:Binds K t.d_28 ["self"] []
 me_28:Meth K t.C_Exam "deal" t.f_28
 F_34:Fun K "dealing" "Exam.dealing" s_34 t.f_34 t.d_34
 b_34:Binds K t.d_34 ["self"] []
 me_34:Meth K t.C_Exam "dealing" t.f_34
 F_48:Fun K "_law_whole" "_law_whole" s_48 t.f_48 t.d_48
 b_48:Binds K t.d_48 ["_law_found"] []
 m_48:mg "_law_whole"=some (.ref t.f_48)
 F_50:Fun K "_law_row" "_law_row" s_50 t.f_50 t.d_50
 b_50:Binds K t.d_50 ["_law_found","_law_due"] []
 m_50:mg "_law_row"=some (.ref t.f_50)
 F_51:Fun K "_law_rows" "_law_rows" s_51 t.f_51 t.d_51
 b_51:Binds K t.d_51 ["_law_found","_law_due"] []
 m_51:mg "_law_rows"=some (.ref t.f_51)
 F_53:Fun K "_law_pair" "_law_pair" s_53 t.f_53 t.d_53
 b_53:Binds K t.d_53 ["_law_staff","_law_house","_law_row_here"] []
 m_53:mg "_law_pair"=some (.ref t.f_53)
 F_54:Fun K "_law_right" "_law_right" s_54 t.f_54 t.d_54
 b_54:Binds K t.d_54 ["_law_homes","_law_staff","_law_rows_here"] []
 m_54:mg "_law_right"=some (.ref t.f_54)
 F_62:Fun K "_law_points" "_law_points" s_62 t.f_62 t.d_62
 b_62:Binds K t.d_62 ["_law_cell","_law_step_here","_law_given_here"] []
 m_62:mg "_law_points"=some (.ref t.f_62)
 F_65:Fun K "_law_table" "_law_table" s_65 t.f_65 t.d_65
 b_65:Binds K t.d_65 ["_law_script","_law_step_here","_law_many"] []
 m_65:mg "_law_table"=some (.ref t.f_65)
 F_56:Fun K "_law_given" "_law_given" s_56 t.f_56 t.d_56
 b_56:Binds K t.d_56 ["_law_names","_law_entries","_law_paper"] []
 m_56:mg "_law_given"=some (.ref t.f_56)
 F_57:Fun K "_law_waiting" "_law_waiting" s_57 t.f_57 t.d_57
 b_57:Binds K t.d_57 ["_law_names","_law_entries"] []
 m_57:mg "_law_waiting"=some (.ref t.f_57)
 F_66:Fun K "_law_late" "_law_late" s_66 t.f_66 t.d_66
 b_66:Binds K t.d_66 ["_law_step_here","_law_table_here","_law_entries","_law_one"] []
 m_66:mg "_law_late"=some (.ref t.f_66)
 F_40:Fun K "refuse_ahead_of_dealing" "Exam.refuse_ahead_of_dealing" s_40 t.f_40 t.d_40
 b_40:Binds K t.d_40 ["self"] []
 me_40:Meth K t.C_Exam "refuse_ahead_of_dealing" t.f_40
 F_42:Fun K "due_readers" "Exam.due_readers" s_42 t.f_42 t.d_42
 b_42:Binds K t.d_42 ["self","paper"] []
 me_42:Meth K t.C_Exam "due_readers" t.f_42
 F_41:Fun K "refuse_not_due" "Exam.refuse_not_due" s_41 t.f_41 t.d_41
 b_41:Binds K t.d_41 ["self","paper","reader"] []
 me_41:Meth K t.C_Exam "refuse_not_due" t.f_41
 F_43:Fun K "points_for" "Exam.points_for" s_43 t.f_43 t.d_43
 b_43:Binds K t.d_43 ["self","paper"] []
 me_43:Meth K t.C_Exam "points_for" t.f_43
 F_17:Fun K "agree" "agree" s_17 t.f_17 t.d_17
 b_17:Binds K t.d_17 ["one","other","step"] []
 m_17:mg "agree"=some (.ref t.f_17)
 F_46:Fun K "needs_third" "Exam.needs_third" s_46 t.f_46 t.d_46
 b_46:Binds K t.d_46 ["self","paper"] []
 me_46:Meth K t.C_Exam "needs_third" t.f_46
 F_23:Fun K "third_for" "third_for" s_23 t.f_23 t.d_23
 b_23:Binds K t.d_23 ["papers","readers","left","paper","row"] []
 m_23:mg "third_for"=some (.ref t.f_23)
 F_38:Fun K "left" "Exam.left" s_38 t.f_38 t.d_38
 b_38:Binds K t.d_38 ["self"] []
 me_38:Meth K t.C_Exam "left" t.f_38
 F_45:Fun K "name_third" "Exam.name_third" s_45 t.f_45 t.d_45
 b_45:Binds K t.d_45 ["self","paper"] []
 me_45:Meth K t.C_Exam "name_third" t.f_45
 F_29:Fun K "enter" "Exam.enter" s_29 t.f_29 t.d_29
 b_29:Binds K t.d_29 ["self","paper","reader","points"] []
 me_29:Meth K t.C_Exam "enter" t.f_29
 F_59:Fun K "_law_spare" "_law_spare" s_59 t.f_59 t.d_59
 b_59:Binds K t.d_59 ["_law_staff","_law_names"] []
 m_59:mg "_law_spare"=some (.ref t.f_59)
 F_60:Fun K "_law_third" "_law_third" s_60 t.f_60 t.d_60
 b_60:Binds K t.d_60 ["_law_homes","_law_staff","_law_names","_law_paper"] []
 m_60:mg "_law_third"=some (.ref t.f_60)
 F_61:Fun K "_law_then" "_law_then" s_61 t.f_61 t.d_61
 b_61:Binds K t.d_61 ["_law_homes","_law_staff","_law_step_here","_law_names","_law_entries","_law_one"] []
 m_61:mg "_law_then"=some (.ref t.f_61)
 F_67:Fun K "_law_enters" "_law_enters" s_67 t.f_67 t.d_67
 b_67:Binds K t.d_67 ["_law_exam_here","_law_made","_law_step_here","_law_names","_law_table_here","_law_entries","_law_one"] []
 m_67:mg "_law_enters"=some (.ref t.f_67)
 F_68:Fun K "_law_run" "_law_run" s_68 t.f_68 t.d_68
 b_68:Binds K t.d_68 ["_law_exam_here","_law_made","_law_step_here","_law_names","_law_table_here","_law_order","_law_cells"] []
 m_68:mg "_law_run"=some (.ref t.f_68)
 F_36:Fun K "due" "Exam.due" s_36 t.f_36 t.d_36
 b_36:Binds K t.d_36 ["self"] []
 me_36:Meth K t.C_Exam "due" t.f_36
 F_58:Fun K "_law_mark" "_law_mark" s_58 t.f_58 t.d_58
 b_58:Binds K t.d_58 ["_law_given_here","_law_step_here"] []
 m_58:mg "_law_mark"=some (.ref t.f_58)
 F_64:Fun K "_law_all_marked" "_law_all_marked" s_64 t.f_64 t.d_64
 b_64:Binds K t.d_64 ["_law_found","_law_names","_law_entries","_law_step_here"] []
 m_64:mg "_law_all_marked"=some (.ref t.f_64)
 F_16:Fun K "greatest_divisor" "greatest_divisor" s_16 t.f_16 t.d_16
 b_16:Binds K t.d_16 ["one","other"] []
 m_16:mg "greatest_divisor"=some (.ref t.f_16)
 F_15:Fun K "lowest" "lowest" s_15 t.f_15 t.d_15
 b_15:Binds K t.d_15 ["top","bottom"] []
 m_15:mg "lowest"=some (.ref t.f_15)
 F_19:Fun K "middle_of" "middle_of" s_19 t.f_19 t.d_19
 b_19:Binds K t.d_19 ["points"] []
 m_19:mg "middle_of"=some (.ref t.f_19)
 F_18:Fun K "mark_of" "mark_of" s_18 t.f_18 t.d_18
 b_18:Binds K t.d_18 ["points","step"] []
 m_18:mg "mark_of"=some (.ref t.f_18)
 F_44:Fun K "mark_for" "Exam.mark_for" s_44 t.f_44 t.d_44
 b_44:Binds K t.d_44 ["self","paper"] []
 me_44:Meth K t.C_Exam "mark_for" t.f_44
 F_37:Fun K "marks" "Exam.marks" s_37 t.f_37 t.d_37
 b_37:Binds K t.d_37 ["self"] []
 me_37:Meth K t.C_Exam "marks" t.f_37
 F_69:Fun K "law" "law" s_69 t.f_69 t.d_69
 b_69:Binds K t.d_69 ["_law_script"] []
 m_69:mg "law"=some (.ref t.f_69)
 cl_Attempt:Cls K t.C_Attempt
 mg_Attempt:mg "Attempt"=some (.ref t.C_Attempt)
 n_Attempt_allowed:zbJ K t.C_Attempt "allowed"
 n_Attempt_given:zbJ K t.C_Attempt "given"
 n_Attempt_spare:zbJ K t.C_Attempt "spare"
 cl_Exam:Cls K t.C_Exam
 mg_Exam:mg "Exam"=some (.ref t.C_Exam)
 n_Exam_paper_houses:zbJ K t.C_Exam "paper_houses"
 n_Exam_reader_rows:zbJ K t.C_Exam "reader_rows"
 n_Exam_widest_step:zbJ K t.C_Exam "widest_step"
 n_Exam_is_dealt:zbJ K t.C_Exam "is_dealt"
 n_Exam_named_readers:zbJ K t.C_Exam "named_readers"
 n_Exam_entered_points:zbJ K t.C_Exam "entered_points"
 v_READERS_EACH:mg "READERS_EACH"=some t.k_READERS_EACH
 w_READERS_EACH:RelV (.int 2) t.k_READERS_EACH
 v_MOST_HOUSES:mg "MOST_HOUSES"=some t.k_MOST_HOUSES
 w_MOST_HOUSES:RelV (.int 6) t.k_MOST_HOUSES
 v_MOST_PAPERS:mg "MOST_PAPERS"=some t.k_MOST_PAPERS
 w_MOST_PAPERS:RelV (.int 10) t.k_MOST_PAPERS
 v_MOST_LIMIT:mg "MOST_LIMIT"=some t.k_MOST_LIMIT
 w_MOST_LIMIT:RelV (.int 30) t.k_MOST_LIMIT
 v_MOST_READERS:mg "MOST_READERS"=some t.k_MOST_READERS
 w_MOST_READERS:RelV (.int 8) t.k_MOST_READERS
 v_MOST_STEP:mg "MOST_STEP"=some t.k_MOST_STEP
 w_MOST_STEP:RelV (.int 100) t.k_MOST_STEP
 v_MOST_POINTS:mg "MOST_POINTS"=some t.k_MOST_POINTS
 w_MOST_POINTS:RelV (.int 100) t.k_MOST_POINTS
 z_abs:mg "abs"=none
 z_all:mg "all"=none
 z_bool:mg "bool"=none
 z_enumerate:mg "enumerate"=none
 z_int:mg "int"=none
 z_isinstance:mg "isinstance"=none
 z_len:mg "len"=none
 z_list:mg "list"=none
 z_max:mg "max"=none
 z_min:mg "min"=none
 z_range:mg "range"=none
 z_sorted:mg "sorted"=none
 z_sum:mg "sum"=none
 z_zip:mg "zip"=none
end Prf
namespace Prf
open PySem PySem.Spec PyProof.Rows L2
section
variable {P:Program} {w:World} {K:PySem.W.Frag} {mg:Str→Option Value} {base:Heap} {t:Adr}
def zgL (K:PySem.W.Frag):Sp:=fun vs H Q _=>vs.length=2∧∃ (a:Addr) (ns:List Int) (k:Int),vs=[.ref a,.int k]∧SqL K H a (ns.map V.int)∧ns.length≤63∧Q (.int (zbz ns k)) H
theorem ze3 (T:Txt K mg t):FnOk P w K mg base CX0 1 t.f_47 t.d_47 ["_law_script","_law_k"] (zgL K):=by
 refine T.F_47.ok sc_47 (fun _ _ _ _ h=>h.1) fun cdv A outer s H vs Q E hr h=>by
  refine ⟨_,(zab (zaS (zap (zbF (K:=K) rfl hr.units0) (zag (zai (K:=K) rfl) (by rfl) T.z_len (by rfl) (zaa (pv 0) pa_nil)) zad (zay _))
   (zae (zak zad)) pss_nil)
   (zae (zak (zat (op_addG) (zas (zaf (K:=K) rfl) (pv 0) (zat (op_mod) (pv 1) (zag (zai (K:=K) rfl) (by rfl) T.z_len (by rfl) (zaa (pv 0) pa_nil))) (fun _ _=>rfl)) (zat (op_fdivB) (pv 1) (zag (zai (K:=K) rfl) (by rfl) T.z_len (by rfl) (zaa (pv 0) pa_nil))))))),?_⟩
  obtain ⟨_,a,ns,k,rfl,hS,hl,q⟩:=h;symm;unfold zbz at q;refine zbk (fun h0=>?_) (fun h0=>?_)
  ·rw [if_pos h0] at q;symm;exact q
  ·rw [if_neg h0] at q;have h3:(0:Int) < ns.length:=by omega
   symm;refine zeL hS (zdg (Int.emod_nonneg _ h0) (Int.emod_lt_of_pos _ h3)) ?_;symm;exact q
theorem zii {H:Hp} {a:Addr} {ns:List Int} {k:Int} {Q:VK} {E:XK} (h:SqL K H a (ns.map V.int)) (hl:ns.length≤63) (q:Q (.int (zbz ns k)) H):zgL K [.ref a,.int k] H Q E:=⟨rfl,a,ns,k,rfl,h,hl,q⟩
local macro_rules | `(tactic| walk_at "rd1")=>`(tactic| ((with_reducible refine' zii ?h1 ?h2 ?_);(case h1=>walk_at "hp");(case h2=>omega)))
theorem few3 {k:Int} (h0:0≤k) (h1:k < 3):2≤([6,2,3]:List Int).getD k.toNat 0∧([6,2,3]:List Int).getD k.toNat 0≤6:=by
 have:k=0∨k=1∨k=2:=by omega
 rcases this with rfl | rfl | rfl <;> decide
theorem znT {k:Int} (h0:0≤k) (h1:k < 3):1≤([31,1,2]:List Int).getD k.toNat 0∧([31,1,2]:List Int).getD k.toNat 0≤31:=by
 have:k=0∨k=1∨k=2:=by omega
 rcases this with rfl | rfl | rfl <;> decide
structure zcI (B:Hp) (p ph ps pr:Addr) (sa ra:List Addr) (hs:List Int) (rs rows:LI) (H:Hp):Prop where
 same:Same B H
 at_p:H p=some (.lst [.ref ph,.ref ps,.ref pr])
 at_h:H ph=some (.lst (hs.map V.int))
 at_s:H ps=some (.lst (sa.map V.ref))
 at_r:H pr=some (.lst (ra.map V.ref))
 sl:sa.length=rs.length
 rl:ra.length=rows.length
 s_at:∀ i,i < rs.length→H (sa.getD i 0)=some (.lst ((rs.getD i []).map V.int))
 r_at:∀ i,i < rows.length→H (ra.getD i 0)=some (.lst ((rows.getD i []).map V.int))
 apart:(p::ph::ps::pr::(sa++ra)).Nodup
 new:∀ b∈p::ph::ps::pr::(sa++ra),B b=none
theorem zcI.ls {K:PySem.W.Frag} {B H:Hp} {p ph ps pr:Addr} {sa ra:List Addr} {hs:List Int} {rs rows:LI} (P:zcI B p ph ps pr sa ra hs rs rows H):LL K H ps rs:=⟨sa,SqL.of P.at_s,P.sl,P.s_at⟩
theorem zcI.mono {B H H':Hp} {p ph ps pr:Addr} {sa ra:List Addr} {hs:List Int} {rs rows:LI} (P:zcI B p ph ps pr sa ra hs rs rows H) (s:Same H H'):zcI B p ph ps pr sa ra hs rs rows H' :=
 ⟨P.same.trans s,s _ _ P.at_p,s _ _ P.at_h,s _ _ P.at_s,s _ _ P.at_r,P.sl,P.rl,fun i hi=>s _ _ (P.s_at i hi),fun i hi=>s _ _ (P.r_at i hi),P.apart,P.new⟩
theorem zcI.nd {B H:Hp} {p ph ps pr:Addr} {sa ra:List Addr} {hs:List Int} {rs rows:LI} (P:zcI B p ph ps pr sa ra hs rs rows H):(ph::ps::sa).Nodup:=by
 have h:=P.apart;simp only [nodup_cons,mem_cons,mem_append,not_or,nodup_append] at h ⊢;exact ⟨⟨h.2.1.1,h.2.1.2.2.1⟩,h.2.2.1.2.1,h.2.2.2.2.1⟩
def stB (hB lB:Nat→Int) (c i:Nat):LI:=(List.range c).map fun j=>[hB j,if j < i then lB j else 0]
theorem zd7 {hB lB:Nat→Int} {c i j:Nat} (h:j < c):(stB hB lB c i).getD j []=[hB j,if j < i then lB j else 0]:=zaD h
theorem zcJ {hB lB:Nat→Int} {c i:Nat}:(stB hB lB c i).length=c:=by unfold stB;rw [length_map,length_range]
theorem ziS {least:Int} {c:Nat} {hB lB:Nat→Int} {hs:List Int} {rows:LI} (c2:2≤c) (c8:c≤8) (l0:least≤hs.length) (l1:hs.length≤10) (hl:rows.length=hs.length) (hP:∀ i,i < hs.length→PRow c hB (hs.getD i 0) (rows.getD i []))
  (hh:∀ j,j < c→0≤hB j∧hB j≤6) (hlim:∀ j,j < c→(cntB rows (0+(j:Int)+1):Int)≤lB j∧lB j≤30):zhh least hs (stB hB lB c c) rows:=by
 refine ⟨⟨l1,by rw [zcJ];exact c8,fun i hi=>(hP i hi).rng,fun i hi=>?_,fun i hi=>?_,fun i hi=>?_⟩,by rw [zcJ];exact c2,hl,l0,fun i hi=>?_,?_⟩
 ·rw [zcJ] at hi;rw [zd7 hi];rfl
 ·rw [zcJ] at hi;rw [zd7 hi];exact hh i hi
 ·rw [zcJ] at hi;rw [zd7 hi,if_pos hi];have:=hlim i hi;show 0≤lB i∧lB i≤30;omega
 ·obtain ⟨⟨x,y,_,_,e,_⟩,_⟩:=hP i (by omega);rw [e];rfl
 ·unfold zaW;rw [decide_eq_true hl,Bool.true_and,zbg (fun k hk=>(hP k hk).pair zcJ fun j hj=>by rw [zd7 hj];rfl),Bool.true_and];refine zbg fun k hk=>decide_eq_true ?_;rw [zcJ] at hk;rw [zd7 hk,if_pos hk];exact (hlim k hk).1
def zdn (K:PySem.W.Frag):Sp:=fun vs H Q _=>vs.length=3∧∃ (a:Addr) (ns:List Int) (first least:Int),vs=[.ref a,.int first,.int least]∧SqL K H a (ns.map V.int)∧ns.length≤63∧0≤least∧least≤10 ∧
 ∀ (p ph ps pr:Addr) (sa ra:List Addr) (hs:List Int) (rs rows:LI) (H2:Hp),zcI H p ph ps pr sa ra hs rs rows H2→zhh least hs rs rows→Q (.ref p) H2
theorem zfo (T:Txt K mg t):FnOk P w K mg base CX0 2 t.f_52 t.d_52 ["_law_script","_law_first","_law_least"] (zdn K):=by
 have G_47:=ze3 (P:=P) (w:=w) (base:=base) T;refine T.F_52.ok sc_52 (fun _ _ _ _ h=>h.1) fun cdv A outer s H vs Q E hr h=>by
  refine ⟨_,(zab (zax (i:=3) sc_52.nd rfl (Or.inl rfl) (zal G_47 (hr.mono (by decide)) (by rfl) T.m_47 T.F_47.kp T.b_47 .nil zav (zaa (pv 0) (zaa (pv 1) pa_nil))))
   (zab (zax (i:=4) sc_52.nd rfl (Or.inl rfl) (zat (op_addG) zad (zat (op_mod) (pv 3) zad)))
   (zab (zax (i:=5) sc_52.nd rfl (Or.inr rfl) (zas (zaf (K:=K) rfl) (zaN (zaa zad (zaa zad (zaa zad pa_nil)))) (zat (op_mod) (zat (op_fdivB) (pv 3) zad) zad) (fun _ _=>rfl)))
   (zab (zax (i:=6) sc_52.nd rfl (Or.inl rfl) (zas (zaf (K:=K) rfl) (zaN (zaa zad (zaa zad (zaa zad pa_nil)))) (zat (op_mod) (zat (op_fdivB) (pv 3) zad) zad) (fun _ _=>rfl)))
   (zab (zax (i:=7) sc_52.nd rfl (Or.inr rfl) (zba (zaq (sc:=zac s_52) (XN:=["_law_script","_law_first","_law_least","_law_shape","_law_count","_law_few","_law_spare_here","_law_staff","_law_homes","_law_rows_here","_law_k","_law_cell","_law_one","_law_two","_law_fit","_law_used"]) (N:=["_law_k","_law_script","_law_first","_law_few"]) (own:=1) (js:=[0,1,5]) rfl rfl (by decide +kernel)) rfl (zaX (by rfl) T.z_range (zaa (pv 4) pa_nil)) (fun _ _ _ _ _=>(zar (i:=0) (show List.Nodup [(Str.ofString "_law_k"),(Str.ofString "_law_script"),(Str.ofString "_law_first"),(Str.ofString "_law_few")] by decide +kernel) rfl (Or.inl rfl))) (fun _ _ _ _ _=>zbl) (fun _ _ _ _ _=>(zaN (zaa (zat (op_mod) (zat (op_mod) (zal G_47 (hr.mono (by decide)) (by rfl) T.m_47 T.F_47.kp T.b_47 .nil zav (zaa (pv 1) (zaa (zat (op_addG) (zat (op_addG) (pv 2) zad) (pv 0)) pa_nil))) zad) (zat (op_addG) (pv 3) zad)) (zaa zad pa_nil))))))
   (zab (zax (i:=8) sc_52.nd rfl (Or.inl rfl) (zaN pa_nil))
   (zab (zax (i:=9) sc_52.nd rfl (Or.inl rfl) (zaN pa_nil))
   (zab (za2 PassesOwn.never rfl (zaX (by rfl) T.z_range (zaa (zat (op_addG) (pv 2) (zat (op_mod) (zal G_47 (hr.mono (by decide)) (by rfl) T.m_47 T.F_47.kp T.b_47 .nil zav (zaa (pv 0) (zaa (zat (op_addG) (pv 1) zad) pa_nil))) (zat (op_sub) zad (pv 2)))) pa_nil)) (zar (i:=10) sc_52.nd rfl (Or.inr rfl))
   (zab (zax (i:=11) sc_52.nd rfl (Or.inl rfl) (zal G_47 (hr.mono (by decide)) (by rfl) T.m_47 T.F_47.kp T.b_47 .nil zav (zaa (pv 0) (zaa (zat (op_addG) (zat (op_addG) (pv 1) zad) (pv 10)) pa_nil))))
   (zab (zax (i:=12) sc_52.nd rfl (Or.inr rfl) (zat (op_mod) (pv 11) (pv 4)))
   (zab (zax (i:=13) sc_52.nd rfl (Or.inr rfl) (zat (op_mod) (zat (op_addG) (zat (op_addG) (pv 12) zad) (zat (op_mod) (zat (op_fdivB) (pv 11) zad) (zat (op_sub) (pv 4) zad))) (pv 4)))
   (zab (zbD (i:=14) sc_52.nd rfl (Or.inl rfl) (by rfl) (zaq (sc:=zac s_52) (XN:=["_law_script","_law_first","_law_least","_law_shape","_law_count","_law_few","_law_spare_here","_law_staff","_law_homes","_law_rows_here","_law_k","_law_cell","_law_one","_law_two","_law_fit","_law_used"]) (N:=["_law_h","_law_staff","_law_one","_law_two"]) (own:=1) (js:=[7,12,13]) rfl rfl (by decide +kernel)) rfl (zb6 (by rfl) T.z_range (zaa zad (zaa zad pa_nil))) (fun _ _ _ _ _=>(zar (i:=0) (show List.Nodup [(Str.ofString "_law_h"),(Str.ofString "_law_staff"),(Str.ofString "_law_one"),(Str.ofString "_law_two")] by decide +kernel) rfl (Or.inl rfl))) (fun _ _ _ _ _=>(zcp (zeF (zap (zc8 (K:=K) rfl hr.units0) (pv 0) (zas (zaf (K:=K) rfl) (zas (zaf (K:=K) rfl) (pv 1) (pv 2) (fun _ _=>rfl)) zad (fun _ _=>rfl)) (zay _)) (zdu (zap (zc8 (K:=K) rfl hr.units0) (pv 0) (zas (zaf (K:=K) rfl) (zas (zaf (K:=K) rfl) (pv 1) (pv 3) (fun _ _=>rfl)) zad (fun _ _=>rfl)) (zay _)))).pt)) (fun _ _ _ _ _=>(pv 0)))
   (zab (zaS (zap (op_lt) (pv 5) zad (zay _))
   (zae (zax (i:=14) sc_52.nd rfl (Or.inl rfl) (zdH (zdL (K:=K) rfl) (pv 14) po_none (zeI zad)))) pss_nil)
   (zab (zaK (zbK (K:=K) rfl PySem.F.plainAttrs_list PySem.F.slot_list_append PySem.F.type_list_append mt_append (pv 8) (zaa (zas (zaf (K:=K) rfl) (pv 14) (zat (op_mod) (zat (op_fdivB) (pv 11) zad) (zag (zai (K:=K) rfl) (by rfl) T.z_len (by rfl) (zaa (pv 14) pa_nil))) (fun _ _=>rfl)) pa_nil)))
   (zae (zaK (zbK (K:=K) rfl PySem.F.plainAttrs_list PySem.F.slot_list_append PySem.F.type_list_append mt_append (pv 9) (zaa (zaN (zaa (zat (op_addG) (zag (zfA rfl) (by rfl) T.z_min (by rfl) (zaa (pv 12) (zaa (pv 13) pa_nil))) zad) (zaa (zat (op_addG) (zag (ziz rfl) (by rfl) T.z_max (by rfl) (zaa (pv 12) (zaa (pv 13) pa_nil))) zad) pa_nil))) pa_nil)))))))))))
   (zab (za2 PassesOwn.never rfl (zaX (by rfl) T.z_range (zaa (pv 4) pa_nil)) (zar (i:=10) sc_52.nd rfl (Or.inr rfl))
   (zab (zax (i:=15) sc_52.nd rfl (Or.inl rfl) (zag (zai (K:=K) rfl) (by rfl) T.z_len (by rfl) (zaa (zba (zaq (sc:=zac s_52) (XN:=["_law_script","_law_first","_law_least","_law_shape","_law_count","_law_few","_law_spare_here","_law_staff","_law_homes","_law_rows_here","_law_k","_law_cell","_law_one","_law_two","_law_fit","_law_used"]) (N:=["_law_row_here","_law_k"]) (own:=1) (js:=[10]) rfl rfl (by decide +kernel)) rfl (zaI (K:=K) rfl (pv 9)) (fun _ _ _ _ _=>(zar (i:=0) (show List.Nodup [(Str.ofString "_law_row_here"),(Str.ofString "_law_k")] by decide +kernel) rfl (Or.inl rfl))) (fun _ _ _ _ _=>(zcp (zap (zeg (K:=K) rfl (zdk hr)) (zat (op_addG) (pv 1) zad) (pv 0) (by with_unfolding_all rfl)))) (fun _ _ _ _ _=>(pv 0))) pa_nil)))
   (zae (zmM (zag (zfA rfl) (by rfl) T.z_min (by rfl) (zaa zad (zaa (zat (op_addG) (pv 15) (zat (op_mod) (zat (op_fdivB) (zal G_47 (hr.mono (by decide)) (by rfl) T.m_47 T.F_47.kp T.b_47 .nil zav (zaa (pv 0) (zaa (zat (op_addG) (zat (op_addG) (pv 1) zad) (pv 10)) pa_nil))) zad) (pv 6))) pa_nil))) (zmL (zas (zaf (K:=K) rfl) (pv 7) (pv 10) (fun _ _=>rfl)) zad set_list)))))
   (zae (zak (zaN (zaa (pv 8) (zaa (pv 7) (zaa (pv 9) pa_nil))))))))))))))),?_⟩
  obtain ⟨_,a,ns,first,least,rfl,hS,hl,l0,l1,q⟩:=h;symm;generalize hsh:zbz ns first=shape
  refine zau (by decide) fun p1 H1 f1 s1 e1=>?_;have hS1:=s1.seq hS;symm;have hfew:=few3 (k:=shape / 7 % 3) (by omega) (by omega);refine zeL (SqL.of e1) (zdg (ns:=[6,2,3]) (by omega) (by simp only [length_cons,length_nil];omega)) ?_;generalize ([6,2,3]:List Int).getD (shape / 7 % 3).toNat 0=few at hfew ⊢;symm;refine zau (by decide) fun p1' H1' f1' s1' e1'=>?_;have hS1':=s1'.seq hS1;symm;have hspare:=znT (k:=shape / 21 % 3) (by omega) (by omega);refine zeL (SqL.of e1') (zdg (ns:=[31,1,2]) (by omega) (by simp only [length_cons,length_nil];omega)) ?_;generalize ([31,1,2]:List Int).getD (shape / 21 % 3).toNat 0=spare at hspare ⊢;obtain ⟨c,hc⟩:∃ c:Nat,2+shape % 7=(c:Int):=⟨(2+shape % 7).toNat,by omega⟩
  have c2:2≤c:=by omega
  have c8:c≤8:=by omega
  rw [hc];symm;refine zb3 (by omega) (by omega) ?_;have ecN:((c:Int)).toNat=c:=by omega
  rw [ecN];refine ziy (zbE _ _ _) (za0 (by omega)) (fun i=>[.int (zbz ns (first+2+(0+(i:Int))) % 7 % (few+1)),.int 0]) (fun i H' Q' hi s q'=>?_) fun ps sa H2 f2 s2 hsl hps hsa snd=>?_
  ·have hS':=s.seq hS1';symm;exact ⟨Nat.le_of_lt (za0 (by simp)),q'⟩
  generalize hhB:(fun i:Nat=>zbz ns (first+2+(0+(i:Int))) % 7 % (few+1))=hB;have hhb:∀ j:Nat,zbz ns (first+2+(0+(j:Int))) % 7 % (few+1)=hB j:=fun j=>by rw [← hhB]
  have hBr:∀ j,0≤hB j∧hB j≤6:=fun j=>by
   rw [← hhb];have:=Int.emod_nonneg (zbz ns (first+2+(0+(j:Int))) % 7) (show few+1≠0 by omega);have:=Int.emod_lt_of_pos (zbz ns (first+2+(0+(j:Int))) % 7) (show 0 < few+1 by omega);omega
  have s02:Same H H2:=(s1.trans s1').trans s2;have s01:Same H H1':=s1.trans s1';have hS2:=s2.seq hS1';have hsa':∀ j,j < c→H2 (sa.getD j 0)=some (.lst [.int (hB j),.int 0]):=fun j hj=>by rw [← hhb];exact (hsa j hj).1
  symm;refine zau (by decide) fun ph H3 f3 s3 e3=>?_;symm;refine zau (by decide) fun pr H4 f4 s4 e4=>?_;have hS4:=s4.seq (s3.seq hS2);have s24:Same H2 H4:=s3.trans s4;have npr:ph≠pr:=zaj e3 f4;have f4':H2 pr=none:=s3.free f4;symm;have hm1:=Int.emod_nonneg (zbz ns (first+1)) (show 11-least≠0 by omega);have hm2:=Int.emod_lt_of_pos (zbz ns (first+1)) (show 0 < 11-least by omega);refine zb3 (by omega) (by omega) ?_;obtain ⟨n,hn⟩:∃ n:Nat,least+zbz ns (first+1) % (11-least)=(n:Int):=⟨(least+zbz ns (first+1) % (11-least)).toNat,by omega⟩
  rw [hn];have enN:((n:Int)).toNat=n:=by omega
  rw [enN];have n10:n≤10:=by omega
  refine zb8 (fun i σ H'=>∃ v10 v11 v12 v13 v14 hs rows ra,σ=[some (.ref a),some (.int first),some (.int least),some (.int shape),some (.int c),some (.int few),some (.int spare),some (.ref ps),some (.ref ph),some (.ref pr),v10,v11,v12,v13,v14,none] ∧
   Same H2 H'∧hs.length=i∧rows.length=i∧H' ph=some (.lst (hs.map V.int))∧H' pr=some (.lst (ra.map V.ref))∧ra.length=i∧ra.Nodup∧(∀ j,j < i→H' (ra.getD j 0)=some (.lst ((rows.getD j []).map V.int))∧H2 (ra.getD j 0)=none∧ra.getD j 0≠pr∧ra.getD j 0≠ph)∧(∀ j,j < i→PRow c hB (hs.getD j 0) (rows.getD j [])))
   ⟨none,none,none,none,none,[],[],[],rfl,s24,rfl,rfl,s4 _ _ e3,e4,rfl,nodup_nil,fun j hj=>absurd hj (by omega),fun j hj=>absurd hj (by omega)⟩ ?_ ?_
  ·rintro i σ H' hi ⟨v10,v11,v12,v13,v14,hs,rows,ra,rfl,s',lh,lr,hph,hpr,lra,ndr,hra,hP⟩;have hS':=s'.seq hS2;have hps':=s' _ _ hps;have ho1:=Int.emod_nonneg (zbz ns (first+10+(0+(i:Int)))) (show (c:Int)≠0 by omega);have ho2:=Int.emod_lt_of_pos (zbz ns (first+10+(0+(i:Int)))) (show 0 < (c:Int) by omega);have hq1:=Int.emod_nonneg (zbz ns (first+10+(0+(i:Int))) / 8) (show (c:Int)-1≠0 by omega);have hq2:=Int.emod_lt_of_pos (zbz ns (first+10+(0+(i:Int))) / 8) (show 0 < (c:Int)-1 by omega);symm;generalize zbz ns (first+10+(0+(i:Int)))=cell at ho1 ho2 hq1 hq2 ⊢;generalize cell % (c:Int)=one at ho1 ho2 ⊢;generalize cell / 8 % ((c:Int)-1)=gap at hq1 hq2 ⊢;have ht:(one+1+gap) % (c:Int)=if one+1+gap < c then one+1+gap else one+1+gap-c:=by
    split
    ·exact Int.emod_eq_of_lt (by omega) (by omega)
    ·rw [← Int.sub_emod_right];exact Int.emod_eq_of_lt (by omega) (by omega)
   have ht1:0≤(one+1+gap) % (c:Int)∧(one+1+gap) % (c:Int) < c∧(one+1+gap) % (c:Int)≠one:=by
    rw [ht];split <;> omega
   generalize (one+1+gap) % (c:Int)=two at ht1 ⊢;obtain ⟨ht1,ht2,ht3⟩:=ht1;have h1':=s' _ _ (hsa' one.toNat (by omega));have h2':=s' _ _ (hsa' two.toNat (by omega));symm;refine zeN ⟨by omega,by omega,by omega,by omega⟩ ?_;refine zeP (zbE _ _ _) (by decide) (fun i=>!decide (1+(i:Int)=hB one.toNat) && !decide (1+(i:Int)=hB two.toNat)) (fun i=>1+(i:Int)) (fun i H5 Q' hi s5 q'=>?_) (fun i H5 Q' hi s5 hc q'=>?_) fun pf H5 f5 s5 e5=>?_
   ·have hps5:=s5 _ _ hps';have h15:=s5 _ _ h1';have h25:=s5 _ _ h2';symm;refine zjH (d:=!decide (1+(i:Int)=hB two.toNat)) (fun _ Q3 q3=>?_) q';symm;exact q3
   ·symm;exact q'
   change H5 pf=some (.lst ((fitB (hB one.toNat) (hB two.toNat)).map V.int)) at e5;have hS5:=s5.seq hS';symm;refine znh (fun σ' H6=>∃ (pf:Addr) (fs:List Int),σ'=[some (.ref a),some (.int first),some (.int least),some (.int shape),some (.int c),some (.int few),some (.int spare),some (.ref ps),some (.ref ph),some (.ref pr),some (.int (0+(i:Int))),some (.int cell),some (.int one),some (.int two),some (.ref pf),none]∧Same H' H6 ∧
    H6 pf=some (.lst (fs.map V.int))∧0 < fs.length∧fs.length≤6∧∀ x∈fs,x∈fitB (hB one.toNat) (hB two.toNat)) (fun _ nx hnx=>?_) (fun _ nx hnx=>?_) ?_
   ·symm;refine zcx (SqL.of e5) fun pg H6 f6 s6 e6=>?_;have e2:cutV ((fitB (hB one.toNat) (hB two.toNat)).map V.int) none (some 2)=((fitB (hB one.toNat) (hB two.toNat)).take 2).map V.int:=by
     rw [show (some (2:Int))=some ((2:Nat):Int) from rfl,zhf,map_take]
    rw [e2] at e6;have l1:=zhY (hB one.toNat) (hB two.toNat);refine hnx _ _ ⟨pg,_,rfl,s5.trans s6,e6,by rw [length_take];omega,by rw [length_take];omega,fun x hx=>List.mem_of_mem_take hx⟩
   ·symm;exact hnx _ _ ⟨pf,_,rfl,s5,e5,zhY _ _,zmc _ _,fun x hx=>hx⟩
   clear e5 hS5 s5 f5;rintro σ' H6 ⟨pf,fs,rfl,s6,e6,lf1,lf2,hfs⟩;have hm1:=Int.emod_nonneg (cell / 64) (show (fs.length:Int)≠0 by omega);have hm2:=Int.emod_lt_of_pos (cell / 64) (show (0:Int) < fs.length by omega);have hph6:=s6 _ _ hph;have hpr6:=s6 _ _ hpr;symm;have hh:=hfs _ (getD_mem (d:=0) (show (cell / 64 % (fs.length:Int)).toNat < fs.length by omega));generalize fs.getD (cell / 64 % (fs.length:Int)).toNat 0=hou at hh ⊢;obtain ⟨g1,g2,g3,g4⟩:=zkU hh;refine zaM hph6 (by rw [length_map];omega) fun H7 b7 e7=>?_;have hpr7:H7 pr=some (.lst (ra.map V.ref)):=by rw [b7 _ npr.symm];exact hpr6
   have s7:Same H2 H7:=(s'.trans s6).but b7 f3;symm;refine zau (by simp) fun pw H8 f8 s8 e8=>?_;symm;refine zaM (s8 _ _ hpr7) (by rw [length_map];omega) fun H9 b9 e9=>?_;symm;have s9:Same H2 H9:=(s7.trans s8).but b9 f4';have npw:pw≠pr:=(zaj hpr7 f8).symm;have npw2:pw≠ph:=(zaj e7 f8).symm;refine ⟨_,_,_,_,_,hs++[hou],rows++[[(if two < one then two else one)+1,(if two > one then two else one)+1]],ra++[pw],rfl,s9,by simp [lh],by simp [lr],?_,by rw [e9,map_append];rfl,by simp [lra],?_,fun j hj=>?_,fun j hj=>?_⟩
   ·rw [b9 _ npr,map_append];exact s8 _ _ e7
   ·refine nodup_append.mpr ⟨ndr,by simp,fun x hx y hy=>?_⟩;have hy':y=pw:=by simpa using hy
    subst hy';obtain ⟨k,hk,ek⟩:=mem_getD (d:=0) hx;have hrk:=hra k (by omega);rw [ek] at hrk;exact zaj (show H7 x=_ by rw [b7 _ hrk.2.2.2];exact s6 _ _ hrk.1) f8
   ·by_cases hlt:j < i
    ·obtain ⟨r1,r2,r3,r4⟩:=hra j hlt;rw [zaB (by omega),zaB (by omega)];refine ⟨?_,r2,r3,r4⟩;rw [b9 _ r3];refine s8 _ _ ?_;rw [b7 _ r4];exact s6 _ _ r1
    ·have ej:j=i:=by omega
     subst ej;have ea:(ra++[pw]).getD j 0=pw:=by rw [← lra];exact zaC
     have eb:(rows++[[(if two < one then two else one)+1,(if two > one then two else one)+1]]).getD j []=[(if two < one then two else one)+1,(if two > one then two else one)+1]:=by rw [← lr];exact zaC
     rw [ea,eb];refine ⟨?_,s7.free f8,npw,npw2⟩;rw [b9 _ npw];exact e8
   ·by_cases hlt:j < i
    ·rw [zaB (by omega),zaB (by omega)];exact hP j hlt
    ·have ej:j=i:=by omega
     subst ej;have ea:(hs++[hou]).getD j 0=hou:=by rw [← lh];exact zaC
     have eb:(rows++[[(if two < one then two else one)+1,(if two > one then two else one)+1]]).getD j []=[(if two < one then two else one)+1,(if two > one then two else one)+1]:=by rw [← lr];exact zaC
     rw [ea,eb]
     by_cases hlt2:two < one
     ·rw [if_pos hlt2,if_neg (by omega)];exact ⟨⟨two.toNat,one.toNat,by omega,by omega,by rw [Int.toNat_of_nonneg ht1,Int.toNat_of_nonneg ho1],g4,g3⟩,g1,g2⟩
     ·rw [if_neg hlt2,if_pos (by omega)];exact ⟨⟨one.toNat,two.toNat,by omega,by omega,by rw [Int.toNat_of_nonneg ht1,Int.toNat_of_nonneg ho1],g3,g4⟩,g1,g2⟩
  rintro σ H5 ⟨v10,v11,v12,v13,v14,hs,rows,ra,rfl,s5,lh,lr,hph,hpr,lra,ndr,hra,hP⟩;symm;refine zb3 (by omega) (by omega) ?_;rw [ecN];generalize hlB:(fun j:Nat=>if (cntB rows (0+(j:Int)+1):Int)+zbz ns (first+2+(0+(j:Int))) / 7 % spare < 30 then (cntB rows (0+(j:Int)+1):Int)+zbz ns (first+2+(0+(j:Int))) / 7 % spare else 30)=lB;have hlb:∀ j:Nat,(if (cntB rows (0+(j:Int)+1):Int)+zbz ns (first+2+(0+(j:Int))) / 7 % spare < 30 then (cntB rows (0+(j:Int)+1):Int)+zbz ns (first+2+(0+(j:Int))) / 7 % spare else 30)=lB j:=fun j=>by rw [← hlB]
  have hlim:∀ j,j < c→(cntB rows (0+(j:Int)+1):Int)≤lB j∧lB j≤30:=fun j _=>by
   have h1:=Int.emod_nonneg (zbz ns (first+2+(0+(j:Int))) / 7) (show spare≠0 by omega);have h2:=zmd rows (0+(j:Int)+1);rw [← hlb];split <;> omega
  have inS:∀ b,b∈sa→∃ j,j < c∧sa.getD j 0=b:=fun b hb=>by
   obtain ⟨k,hk,ek⟩:=mem_getD (d:=0) hb;exact ⟨k,by omega,ek⟩
  have nS:∀ b,H2 b=none→b∉sa:=fun b hb z=>by
   obtain ⟨k,hk,ek⟩:=inS b z;have:=hsa' k hk;rw [ek,hb] at this
   cases this
  have oldS:∀ b o,H b=some o→b∉sa:=fun b o hb z=>by
   obtain ⟨k,hk,ek⟩:=inS b z;have:=s01.free (hsa k hk).2.1;rw [ek,hb] at this
   cases this
  have psS:ps∉sa:=fun z=>by
   obtain ⟨k,hk,ek⟩:=inS ps z;exact (hsa k hk).2.2 ek
  have raS:∀ j,j < n→ra.getD j 0∉sa:=fun j hj=>nS _ (hra j hj).2.1;refine zb8 (fun i σ H'=>∃ v10 v15,σ=[some (.ref a),some (.int first),some (.int least),some (.int shape),some (.int c),some (.int few),some (.int spare),some (.ref ps),some (.ref ph),some (.ref pr),v10,v11,v12,v13,v14,v15] ∧
   (∀ b o,b∉sa→H5 b=some o→H' b=some o)∧∀ j,j < c→H' (sa.getD j 0)=some (.lst [.int (hB j),.int (if j < i then lB j else 0)])) ⟨v10,none,rfl,fun b o _ e=>e,fun j hj=>by rw [if_neg (by omega)];exact s5 _ _ (hsa' j hj)⟩ ?_ ?_
  ·rintro i σ H' hi ⟨v10,v15,rfl,kp,hst⟩;have sH:Same H H':=fun b o e=>kp b o (oldS b o e) ((s02.trans s5) b o e);have hS':=sH.seq hS;have hps':=kp _ _ psS (s5 _ _ hps);have hpr':=kp _ _ (nS _ f4') hpr;symm;refine zaT (SqL.of hpr') ?_;refine zez (rows:=rows) (x:=0+(i:Int)+1) (SqL.of hpr') (by omega) (by omega) (fun j H6 Q' hj s6 q'=>?_) fun pz H6 zs f6 s6 e6 z6=>?_
   ·have hrj:=s6 _ _ (kp _ _ (raS j (by omega)) (hra j (by omega)).1);symm;exact q'
   have hS6:=s6.seq hS';have hps6:=s6 _ _ hps';symm;rw [z6];have ei:(0+(i:Int)).toNat=i:=by omega
   rw [hlb i,ei];have hi6:=s6 _ _ (hst i hi);refine zhX hi6 (by decide) (by simp) fun H7 b7 e7=>?_;have en7:∀ j,j < c→j≠i→sa.getD j 0≠sa.getD i 0:=fun j hj hji z=>hji (by
    have h1:sa[j]? = some (sa.getD j 0):=by rw [getD_eq_getElem?_getD,getElem?_eq_getElem (by omega)];rfl
    have h2:sa[i]? = some (sa.getD i 0):=by rw [getD_eq_getElem?_getD,getElem?_eq_getElem (by omega)];rfl
    rw [z] at h1;obtain ⟨a1,a2⟩:=List.getElem?_eq_some_iff.mp h1;obtain ⟨b1,b2⟩:=List.getElem?_eq_some_iff.mp h2;exact (getElem_inj snd).mp (a2.trans b2.symm))
   refine ⟨_,_,rfl,fun b o hb e=>?_,fun j hj=>?_⟩
   ·rw [b7 _ (fun z=>hb (by rw [z];exact getD_mem (by omega)))];exact s6 _ _ (kp b o hb e)
   ·by_cases e:j=i
    ·subst e;rw [e7,if_neg (Nat.lt_irrefl j),if_pos (lt_succ_self j)];rfl
    ·rw [b7 _ (en7 j hj e),s6 _ _ (hst j hj)]
     by_cases hlt:j < i
     ·rw [if_pos hlt,if_pos (by omega)]
     ·rw [if_neg hlt,if_neg (by omega)]
  rintro σ H6 ⟨v10',v15,rfl,kp,hst⟩;have sH:Same H H6:=fun b o e=>kp b o (oldS b o e) ((s02.trans s5) b o e);have hps6:=kp _ _ psS (s5 _ _ hps);have hpr6:=kp _ _ (nS _ f4') hpr;have hph6:=kp _ _ (nS _ f3) hph;have hra6:∀ j,j < n→H6 (ra.getD j 0)=some (.lst ((rows.getD j []).map V.int)):=fun j hj=>kp _ _ (raS j hj) (hra j hj).1;symm;refine zau (by simp) fun p H7 f7 s7 e7=>?_;have hrlen:rows.length=n:=lr;refine q p ph ps pr sa ra hs (stB hB lB c c) rows H7 ⟨sH.trans s7,e7,s7 _ _ hph6,s7 _ _ hps6,s7 _ _ hpr6,by rw [zcJ];omega,by omega,fun j hj=>?_,fun j hj=>s7 _ _ (hra6 j (by omega)),?_,fun b hb=>?_⟩ (ziS c2 c8 (by omega) (by omega) (by omega) (fun j hj=>hP j (by omega)) (fun j _=>hBr j) hlim)
  ·rw [zcJ] at hj;rw [zd7 hj];exact s7 _ _ (hst j hj)
  ·have inR:∀ b,b∈ra→∃ j,j < n∧ra.getD j 0=b:=fun b hb=>by
    obtain ⟨k,hk,ek⟩:=mem_getD (d:=0) hb;exact ⟨k,by omega,ek⟩
   have nps:ps≠ph:=zaj hps f3;have nps2:ps≠pr:=zaj hps f4';have nraps:∀ b∈ra,b≠ps:=fun b hb z=>by
    obtain ⟨k,hk,ek⟩:=inR b hb;have:=(hra k hk).2.1;rw [ek,z,hps] at this
    cases this
   refine nodup_cons.mpr ⟨fun z=>?_,nodup_cons.mpr ⟨fun z=>?_,nodup_cons.mpr ⟨fun z=>?_,nodup_cons.mpr ⟨fun z=>?_,nodup_append.mpr ⟨snd,ndr,fun x hx y hy=>?_⟩⟩⟩⟩⟩
   ·have:∃ o,H6 p=some o:=by
     rcases mem_cons.mp z with z | z
     ·exact ⟨_,z▸hph6⟩
     rcases mem_cons.mp z with z | z
     ·exact ⟨_,z▸hps6⟩
     rcases mem_cons.mp z with z | z
     ·exact ⟨_,z▸hpr6⟩
     rcases mem_append.mp z with z | z
     ·obtain ⟨k,hk,ek⟩:=inS p z;exact ⟨_,ek▸hst k hk⟩
     ·obtain ⟨k,hk,ek⟩:=inR p z;exact ⟨_,ek▸hra6 k hk⟩
    obtain ⟨o,ho⟩:=this;rw [f7] at ho
    cases ho
   ·rcases mem_cons.mp z with z | z
    ·exact nps z.symm
    rcases mem_cons.mp z with z | z
    ·exact npr z
    rcases mem_append.mp z with z | z
    ·exact nS _ f3 z
    ·obtain ⟨k,hk,ek⟩:=inR ph z;exact (hra k hk).2.2.2 ek
   ·rcases mem_cons.mp z with z | z
    ·exact nps2 z
    rcases mem_append.mp z with z | z
    ·exact psS z
    ·exact nraps ps z rfl
   ·rcases mem_append.mp z with z | z
    ·exact nS _ f4' z
    ·obtain ⟨k,hk,ek⟩:=inR pr z;exact (hra k hk).2.2.1 ek
   ·rintro rfl;obtain ⟨k,hk,ek⟩:=inR x hy;exact raS k hk (by rw [ek];exact hx)
  ·rcases mem_cons.mp hb with z | z
   ·rw [z];exact sH.free f7
   rcases mem_cons.mp z with z | z
   ·rw [z];exact s02.free f3
   rcases mem_cons.mp z with z | z
   ·rw [z];exact s01.free f2
   rcases mem_cons.mp z with z | z
   ·rw [z];exact s02.free f4'
   rcases mem_append.mp z with z | z
   ·obtain ⟨k,hk,ek⟩:=inS b z;rw [← ek];exact s01.free (hsa k hk).2.1
   ·obtain ⟨k,hk,ek⟩:=mem_getD (d:=0) z;rw [← ek];exact s02.free (hra k (by omega)).2.1
theorem zf8 {H:Hp} {a:Addr} {ns:List Int} {first least:Int} {Q:VK} {E:XK} (h1:SqL K H a (ns.map V.int)) (h2:ns.length≤63) (l0:0≤least) (l1:least≤10)
  (q:∀ (p ph ps pr:Addr) (sa ra:List Addr) (hs:List Int) (rs rows:LI) (H2:Hp),zcI H p ph ps pr sa ra hs rs rows H2→zhh least hs rs rows→Q (.ref p) H2):zdn K [.ref a,.int first,.int least] H Q E:=⟨rfl,a,ns,first,least,rfl,h1,h2,l0,l1,q⟩
def ze4 (K:PySem.W.Frag):Sp:=fun vs H Q _=>vs.length=1∧∃ c:Int,vs=[.int c]∧∀ H',Same H H'→Q (.int (zhg c)) H'
theorem zhq (T:Txt K mg t):FnOk P w K mg base CX0 1 t.f_63 t.d_63 ["_law_cell"] (ze4 K):=by
 refine T.F_63.ok sc_63 (fun _ _ _ _ h=>h.1) fun cdv A outer s H vs Q E hr h=>by
  refine ⟨_,(zab (zaS (zap (zbF (K:=K) rfl hr.units0) (zat (op_mod) (pv 0) zad) zad (zay _))
   (zae (zak (zat (op_mod) (zat (op_fdivB) (pv 0) zad) zad))) pss_nil)
   (zab (zaS (zap (zbF (K:=K) rfl hr.units0) (zat (op_mod) (pv 0) zad) zad (zay _))
   (zae (zak (zat (op_mod) (zat (op_fdivB) (pv 0) zad) zad))) pss_nil)
   (zae (zak (zas (zaf (K:=K) rfl) (zaN (zaa zad (zaa zad (zaa zad (zaa zad pa_nil))))) (zat (op_mod) (zat (op_fdivB) (pv 0) zad) zad) (fun _ _=>rfl)))))),?_⟩
  obtain ⟨_,c,rfl,q⟩:=h;unfold zhg at q;symm;refine zbk (fun h0=>?_) (fun h0=>?_)
  ·rw [if_pos h0] at q;symm;exact q _ (Same.refl _)
  ·rw [if_neg h0] at q;symm;refine zbk (fun h1=>?_) (fun h1=>?_)
   ·rw [if_pos h1] at q;symm;exact q _ (Same.refl _)
   ·rw [if_neg h1] at q;symm;refine zau (by decide) fun p1 H1 f1 s1 e1=>?_;symm;refine zeL (SqL.of e1) (zdg (ns:=[0,1,99,100]) (by omega) (by simp only [length_cons,length_nil];omega)) ?_;exact q _ s1
theorem ziT {H:Hp} {c:Int} {Q:VK} {E:XK} (q:∀ H',Same H H'→Q (.int (zhg c)) H'):ze4 K [.int c] H Q E:=⟨rfl,c,rfl,q⟩
def zcP (K:PySem.W.Frag) (C:Addr):Sp:=fun vs H Q _=>vs.length=1∧∃ (x dx:Addr),vs=[.ref x]∧H x=some (.ins C dx [])∧∀ H' F,(∀ b o,H b=some o→b≠x→b≠dx→H' b=some o)→(∀ b,F b→b=x∨b=dx∨H b=none)→ExAt C H' x F ⟨[],[],0,none⟩→Q .non H'
theorem zet (T:Txt K mg t):FnOk P w K mg base CX0 1 t.f_24 t.d_24 ["self"] (zcP K t.C_Exam):=by
 refine T.F_24.ok sc_24 (fun _ _ _ _ h=>h.1) fun cdv A outer s H vs Q E hr h=>by
  refine ⟨_,(zab (zbQ (K:=K) rfl (pv 0) (zaN pa_nil))
   (zab (zbQ (K:=K) rfl (pv 0) (zaN pa_nil))
   (zab (zbQ (K:=K) rfl (pv 0) zad)
   (zab (zbQ (K:=K) rfl (pv 0) za9)
   (zab (zbQ (K:=K) rfl (pv 0) (zaN pa_nil))
   (zae (zbQ (K:=K) rfl (pv 0) (zaN pa_nil)))))))),?_⟩
  obtain ⟨_,x,dx,rfl,hx,q⟩:=h;have hcl:=T.cl_Exam;have nA:=T.n_Exam_paper_houses;have nB:=T.n_Exam_reader_rows;have nS:=T.n_Exam_widest_step;have nD:=T.n_Exam_is_dealt;have nC:=T.n_Exam_named_readers;have nE:=T.n_Exam_entered_points;symm;refine zau (by decide) fun a H1 f1 s1 e1=>?_;have x1:=s1 _ _ hx;symm;refine za5 x1 hcl nA (Nat.lt_of_lt_of_le (show 0 < 1 by decide) (by decide)) fun H2 b2 x2=>?_;have xa:=zaj hx f1;symm;refine zau (by decide) fun b H3 f3 s3 e3=>?_;have x3:=s3 _ _ x2;symm;have e2:H2 a=some (.lst []):=by rw [b2 _ xa.symm];exact e1
  have ab:=zaj e2 f3;have xb:=zaj x2 f3;refine za5 x3 hcl nB (Nat.lt_of_lt_of_le (zb4 (show 0 < 1 by decide)) (by decide)) fun H4 b4 x4=>?_;symm;refine za5 x4 hcl nS (Nat.lt_of_lt_of_le (zb4 (zb4 (show 0 < 1 by decide))) (by decide)) fun H5 b5 x5=>?_;symm;refine za5 x5 hcl nD (Nat.lt_of_lt_of_le (zb4 (zb4 (zb4 (show 0 < 1 by decide)))) (by decide)) fun H6 b6 x6=>?_;symm;refine zau (by decide) fun c H7 f7 s7 e7=>?_;have x7:=s7 _ _ x6;have a6:H6 a=some (.lst []):=by rw [b6 _ xa.symm,b5 _ xa.symm,b4 _ xa.symm];exact s3 _ _ e2
  have b6':H6 b=some (.lst []):=by rw [b6 _ xb.symm,b5 _ xb.symm,b4 _ xb.symm];exact e3
  have ac:=zaj a6 f7;have bc:=zaj b6' f7;have xc:=zaj x6 f7;symm;refine za5 x7 hcl nC (Nat.lt_of_lt_of_le (zb4 (zb4 (zb4 (zb4 (show 0 < 1 by decide))))) (by decide)) fun H8 b8 x8=>?_;have a8:H8 a=some (.lst []):=by rw [b8 _ xa.symm];exact s7 _ _ a6
  have b8':H8 b=some (.lst []):=by rw [b8 _ xb.symm];exact s7 _ _ b6'
  have c8:H8 c=some (.lst []):=by rw [b8 _ xc.symm];exact e7
  symm;refine zau (by decide) fun d H9 f9 s9 e9=>?_;have x9:=s9 _ _ x8;have ad:=zaj a8 f9;have bd:=zaj b8' f9;have cd:=zaj c8 f9;have xd:=zaj x8 f9;symm;refine za5 x9 hcl nE (Nat.lt_of_lt_of_le (zb4 (zb4 (zb4 (zb4 (zb4 (show 0 < 1 by decide)))))) (by decide)) fun H10 b10 x10=>?_;symm;rw [exFs_mk] at x10;have kp:∀ b o,H b=some o→b≠x→H10 b=some o:=fun z o h n=>by
   rw [b10 _ n];refine s9 _ _ ?_;rw [b8 _ n];refine s7 _ _ ?_;rw [b6 _ n,b5 _ n,b4 _ n];refine s3 _ _ ?_;rw [b2 _ n];exact s1 _ _ h
  have nn:∀ b,H2 b=none→H b=none:=fun z h=>by
   cases hz:H z with
   | none=>rfl
   | some o =>
     by_cases n:z=x
     ·rw [n,x2] at h;cases h
     ·rw [b2 _ n,s1 _ _ hz] at h;cases h
  have nn6:∀ b,H6 b=none→H b=none:=fun z h=>nn z (by
   cases hz:H2 z with
   | none=>rfl
   | some o =>
     by_cases n:z=x
     ·rw [n,x6] at h;cases h
     ·rw [b6 _ n,b5 _ n,b4 _ n,s3 _ _ hz] at h;cases h)
  have nn8:∀ b,H8 b=none→H b=none:=fun z h=>nn6 z (by
   cases hz:H6 z with
   | none=>rfl
   | some o =>
     by_cases n:z=x
     ·rw [n,x8] at h;cases h
     ·rw [b8 _ n,s7 _ _ hz] at h;cases h)
  have J:ExIn t.C_Exam H10 ⟨x,dx,a,b,c,d,[],[],[]⟩ ⟨[],[],0,none⟩ []:=by
   refine ⟨x10,by show H10 a=_;rw [b10 _ xa.symm];exact s9 _ _ a8,by show H10 b=_;rw [b10 _ xb.symm];exact s9 _ _ b8',by show H10 c=_;rw [b10 _ xc.symm];exact s9 _ _ c8,by show H10 d=_;rw [b10 _ xd.symm];exact e9,rfl,rfl,rfl,fun i hi=>absurd hi (by simp),fun i hi=>absurd hi (by simp [ExS.nm]),fun i hi=>absurd hi (by simp [ExS.nm]),fun i hi=>absurd hi (by simp [ExS.nm]),fun i hi=>absurd hi (by simp [ExS.nm]),rfl,?_,⟨fun z=>(by cases z),fun k hk=>absurd hk (by simp [ExS.nm]),fun k r p z=>(by cases z),by decide⟩⟩;unfold ExAd.own;simp only [nodup_cons,mem_cons,append_nil,not_mem_nil,not_or,not_false_iff,nodup_nil,and_true];exact ⟨⟨xa,xb,xc,xd⟩,⟨ab,ac,ad⟩,⟨bc,bd⟩,cd⟩
  refine q H10 _ (fun z o h n _=>kp z o h n) (fun z h=>?_) J.at;unfold ExAd.own at h;simp only [mem_cons,append_nil,not_mem_nil,or_false] at h;rcases h with h | h | h | h | h
  ·exact .inl h
  ·exact .inr (.inr (h▸f1))
  ·exact .inr (.inr (h▸nn _ f3))
  ·exact .inr (.inr (h▸nn6 _ f7))
  ·exact .inr (.inr (h▸nn8 _ f9))
theorem zhr {K:PySem.W.Frag} {C x dx:Addr} {H:Hp} {Q:VK} {E:XK} (h:H x=some (.ins C dx [])) (q:∀ H' F,(∀ b o,H b=some o→b≠x→b≠dx→H' b=some o)→(∀ b,F b→b=x∨b=dx∨H b=none)→ExAt C H' x F ⟨[],[],0,none⟩→Q .non H'):zcP K C [.ref x] H Q E:=⟨rfl,x,dx,rfl,h,q⟩
def zbf (K:PySem.W.Frag) (C:Addr):Sp:=fun vs H Q _=>vs.length=1∧∃ (x:Addr) (F:Addr→Prop) (st:ExS),vs=[.ref x]∧ExAt C H x F st∧st.dl=none∧Q .non H
theorem zaQ (T:Txt K mg t):FnOk P w K mg base CX0 1 t.f_39 t.d_39 ["self"] (zbf K t.C_Exam):=by
 refine T.F_39.ok sc_39 (fun _ _ _ _ h=>h.1) fun cdv A outer s H vs Q E hr h=>by
  refine ⟨_,(zae (zaS (zaw (K:=K) rfl (zaG (K:=K) rfl (pv 0)) (fun _=>rfl))
   (zae ps_never) pss_nil)),?_⟩
  obtain ⟨_,x,F,st,rfl,E0,hd,q⟩:=h;walk_at "hd";symm;rw [hd];refine iteF ?_;symm;exact q
theorem za4 {K:PySem.W.Frag} {C x:Addr} {H:Hp} {F:Addr→Prop} {st:ExS} {Q:VK} {E:XK} {σ:L2.St} (h:ExAt C H x F st) (hd:st.dl=none) (q:Q .non H):zbp C "refuse_behind_dealing" (zbf K C) E tNil σ (.ref x) H Q:=by
 obtain ⟨dx,fs,e,l⟩:=h.ob;exact zaO e (l _ (by decide +kernel)) (zes ⟨rfl,x,F,st,rfl,h,hd,q⟩)
def zbN (K:PySem.W.Frag):Sp:=fun vs H Q _=>vs.length=2∧∃ n m:Int,vs=[.int n,.int m]∧0≤n∧n≤m∧Q .non H
theorem zbb (T:Txt K mg t):FnOk P w K mg base CX0 1 t.f_21 t.d_21 ["number","most"] (zbN K):=by
 refine T.F_21.ok sc_21 (fun _ _ _ _ h=>h.1) fun cdv A outer s H vs Q E hr h=>by
  refine ⟨_,(zae (zaS (zcv (zap (op_lt) (pv 0) zad (zay _)) (zbX (zap (op_gt) (pv 0) (pv 1) (zay _)))).pt
   (zae ps_never) pss_nil)),?_⟩
  obtain ⟨_,n,m,rfl,h1,h2,q⟩:=h;walk_at "rdk";exact q
theorem zbi {H:Hp} {n m:Int} {Q:VK} {E:XK} (h1:0≤n) (h2:n≤m) (q:Q .non H):zbN K [.int n,.int m] H Q E:=⟨rfl,n,m,rfl,h1,h2,q⟩
def zcQ (K:PySem.W.Frag) (C:Addr):Sp:=fun vs H Q _=>vs.length=2∧∃ (x:Addr) (F:Addr→Prop) (st:ExS) (s:Int),vs=[.ref x,.int s]∧ExAt C H x F st∧InB st.hs st.rs∧st.dl=none∧(0≤s∧s≤100)∧∀ H' F',ExFr H H' F F'→ExAt C H' x F' { st with step:=s }→Q (.int s) H'
theorem zeu (T:Txt K mg t):FnOk P w K mg base CX0 2 t.f_27 t.d_27 ["self","step"] (zcQ K t.C_Exam):=by
 have G_39:=zaQ (P:=P) (w:=w) (base:=base) T;have G_21:=zbb (P:=P) (w:=w) (base:=base) T;refine T.F_27.ok sc_27 (fun _ _ _ _ h=>h.1) fun cdv A outer s H vs Q E hr h=>by
  refine ⟨_,(zab (zaK (zbv (pv 0) T.cl_Exam T.me_39 G_39 (hr.mono (by decide)) T.b_39 .nil zav))
   (zab (zaK (zal G_21 (hr.mono (by decide)) (by rfl) T.m_21 T.F_21.kp T.b_21 .nil zav (zaa (pv 1) (zaa (zcW (v:=.int 100) (by rfl) T.v_MOST_STEP T.w_MOST_STEP) pa_nil))))
   (zab (zbQ (K:=K) rfl (pv 0) (pv 1))
   (zae (zak (pv 1)))))),?_⟩
  obtain ⟨_,x,F,st,s,rfl,E0,BB,hd,hp,q⟩:=h;have E0':=E0;walk_at "hd";symm;refine za4 E0' hd ?_;symm;refine zbi (by omega) (by omega) ?_;symm;refine za5 hob hcl nS (show 6 < 1000 by decide) fun H1 b1 e1=>?_;have I1:=I.setStep b1 e1 hp;symm;exact q H1 F (ExFr.but b1 ((hF _).mpr own_x) fun b z=>.inl z) ⟨e,kvs,rfl,hF,I1⟩
theorem ze5 {K:PySem.W.Frag} {C x:Addr} {H:Hp} {F:Addr→Prop} {st:ExS} {s:Int} {Q:VK} {E:XK} (hE:ExAt C H x F st) (B:InB st.hs st.rs) (hd:st.dl=none) (hp:(0≤s∧s≤100)) (q:∀ H' F',ExFr H H' F F'→ExAt C H' x F' { st with step:=s }→Q (.int s) H'):zcQ K C [.ref x,.int s] H Q E:=⟨rfl,x,F,st,s,rfl,hE,B,hd,hp,q⟩
def zcA (K:PySem.W.Frag):Sp:=fun vs H Q _=>vs.length=3∧∃ n l m:Int,vs=[.int n,.int l,.int m]∧l≤n∧n≤m∧Q .non H
theorem zbT (T:Txt K mg t):FnOk P w K mg base CX0 1 t.f_20 t.d_20 ["number","least","most"] (zcA K):=by
 refine T.F_20.ok sc_20 (fun _ _ _ _ h=>h.1) fun cdv A outer s H vs Q E hr h=>by
  refine ⟨_,(zae (zaS (zcv (zap (op_lt) (pv 0) (pv 1) (zay _)) (zbX (zap (op_gt) (pv 0) (pv 2) (zay _)))).pt
   (zae ps_never) pss_nil)),?_⟩
  obtain ⟨_,n,l,m,rfl,h1,h2,q⟩:=h;walk_at "rdk";exact q
theorem zby {H:Hp} {n l m:Int} {Q:VK} {E:XK} (h1:l≤n) (h2:n≤m) (q:Q .non H):zcA K [.int n,.int l,.int m] H Q E:=⟨rfl,n,l,m,rfl,h1,h2,q⟩
def zdo (K:PySem.W.Frag):Sp:=fun vs H Q _=>vs.length=2∧∃ n m:Int,vs=[.int n,.int m]∧n < m∧Q .non H
theorem zdp (T:Txt K mg t):FnOk P w K mg base CX0 1 t.f_22 t.d_22 ["many","most"] (zdo K):=by
 refine T.F_22.ok sc_22 (fun _ _ _ _ h=>h.1) fun cdv A outer s H vs Q E hr h=>by
  refine ⟨_,(zae (zaS (zap (op_ge) (pv 0) (pv 1) (zay _))
   (zae ps_never) pss_nil)),?_⟩
  obtain ⟨_,n,m,rfl,h1,q⟩:=h;walk_at "rdk";exact q
theorem zdQ {H:Hp} {n m:Int} {Q:VK} {E:XK} (h1:n < m) (q:Q .non H):zdo K [.int n,.int m] H Q E:=⟨rfl,n,m,rfl,h1,q⟩
def zcb (K:PySem.W.Frag) (C:Addr):Sp:=fun vs H Q _=>vs.length=2∧∃ (x:Addr) (F:Addr→Prop) (st:ExS) (h:Int),vs=[.ref x,.int h]∧ExAt C H x F st∧InB st.hs st.rs∧st.dl=none∧(1≤h∧h≤6∧st.hs.length < 10)∧∀ H' F',ExFr H H' F F'→ExAt C H' x F' { st with hs:=st.hs++[h] }→Q (.int ((st.hs.length:Int)+1)) H'
theorem zdy (T:Txt K mg t):FnOk P w K mg base CX0 2 t.f_25 t.d_25 ["self","house"] (zcb K t.C_Exam):=by
 have G_39:=zaQ (P:=P) (w:=w) (base:=base) T;have G_20:=zbT (P:=P) (w:=w) (base:=base) T;have G_22:=zdp (P:=P) (w:=w) (base:=base) T;refine T.F_25.ok sc_25 (fun _ _ _ _ h=>h.1) fun cdv A outer s H vs Q E hr h=>by
  refine ⟨_,(zab (zaK (zbv (pv 0) T.cl_Exam T.me_39 G_39 (hr.mono (by decide)) T.b_39 .nil zav))
   (zab (zaK (zal G_20 (hr.mono (by decide)) (by rfl) T.m_20 T.F_20.kp T.b_20 .nil zav (zaa (pv 1) (zaa zad (zaa (zcW (v:=.int 6) (by rfl) T.v_MOST_HOUSES T.w_MOST_HOUSES) pa_nil)))))
   (zab (zaK (zal G_22 (hr.mono (by decide)) (by rfl) T.m_22 T.F_22.kp T.b_22 .nil zav (zaa (zag (zai (K:=K) rfl) (by rfl) T.z_len (by rfl) (zaa (zaG (K:=K) rfl (pv 0)) pa_nil)) (zaa (zcW (v:=.int 10) (by rfl) T.v_MOST_PAPERS T.w_MOST_PAPERS) pa_nil))))
   (zab (zaK (zbK (K:=K) rfl PySem.F.plainAttrs_list PySem.F.slot_list_append PySem.F.type_list_append mt_append (zaG (K:=K) rfl (pv 0)) (zaa (pv 1) pa_nil)))
   (zae (zak (zag (zai (K:=K) rfl) (by rfl) T.z_len (by rfl) (zaa (zaG (K:=K) rfl (pv 0)) pa_nil)))))))),?_⟩
  obtain ⟨_,x,F,st,h,rfl,E0,BB,hd,hp,q⟩:=h;have E0':=E0;walk_at "hd";symm;refine za4 E0' hd ?_;symm;refine zby (by omega) (by omega) ?_;symm;refine zdQ (by omega) ?_;symm;refine zaM hha (by rw [length_map];omega) fun H1 b1 e1=>?_;have I1:=I.paper hd b1 e1;have hob:=I1.ob;have e1':=I1.ha;symm;have el:((st.hs++[h]).length:Int)=(st.hs.length:Int)+1:=by rw [length_append,length_singleton];omega
  rw [el];exact q H1 F (ExFr.but b1 ((hF _).mpr own_a) fun b z=>.inl z) ⟨e,kvs,rfl,hF,I1⟩
theorem zck {K:PySem.W.Frag} {C x:Addr} {H:Hp} {F:Addr→Prop} {st:ExS} {h:Int} {Q:VK} {E:XK} (hE:ExAt C H x F st) (B:InB st.hs st.rs) (hd:st.dl=none) (hp:(1≤h∧h≤6∧st.hs.length < 10)) (q:∀ H' F',ExFr H H' F F'→ExAt C H' x F' { st with hs:=st.hs++[h] }→Q (.int ((st.hs.length:Int)+1)) H'):zcb K C [.ref x,.int h] H Q E:=⟨rfl,x,F,st,h,rfl,hE,B,hd,hp,q⟩
def zb5 (K:PySem.W.Frag) (C:Addr):Sp:=fun vs H Q _=>vs.length=3∧∃ (x:Addr) (F:Addr→Prop) (st:ExS) (h:Int) (l:Int),vs=[.ref x,.int h,.int l]∧ExAt C H x F st∧InB st.hs st.rs∧st.dl=none∧(0≤h∧h≤6∧0≤l∧l≤30∧st.rs.length < 8)∧∀ H' F',ExFr H H' F F'→ExAt C H' x F' { st with rs:=st.rs++[[h,l]] }→Q (.int ((st.rs.length:Int)+1)) H'
theorem zdl (T:Txt K mg t):FnOk P w K mg base CX0 2 t.f_26 t.d_26 ["self","house","limit"] (zb5 K t.C_Exam):=by
 have G_39:=zaQ (P:=P) (w:=w) (base:=base) T;have G_20:=zbT (P:=P) (w:=w) (base:=base) T;have G_21:=zbb (P:=P) (w:=w) (base:=base) T;have G_22:=zdp (P:=P) (w:=w) (base:=base) T;refine T.F_26.ok sc_26 (fun _ _ _ _ h=>h.1) fun cdv A outer s H vs Q E hr h=>by
  refine ⟨_,(zab (zaK (zbv (pv 0) T.cl_Exam T.me_39 G_39 (hr.mono (by decide)) T.b_39 .nil zav))
   (zab (zaK (zal G_20 (hr.mono (by decide)) (by rfl) T.m_20 T.F_20.kp T.b_20 .nil zav (zaa (pv 1) (zaa zad (zaa (zcW (v:=.int 6) (by rfl) T.v_MOST_HOUSES T.w_MOST_HOUSES) pa_nil)))))
   (zab (zaK (zal G_21 (hr.mono (by decide)) (by rfl) T.m_21 T.F_21.kp T.b_21 .nil zav (zaa (pv 2) (zaa (zcW (v:=.int 30) (by rfl) T.v_MOST_LIMIT T.w_MOST_LIMIT) pa_nil))))
   (zab (zaK (zal G_22 (hr.mono (by decide)) (by rfl) T.m_22 T.F_22.kp T.b_22 .nil zav (zaa (zag (zai (K:=K) rfl) (by rfl) T.z_len (by rfl) (zaa (zaG (K:=K) rfl (pv 0)) pa_nil)) (zaa (zcW (v:=.int 8) (by rfl) T.v_MOST_READERS T.w_MOST_READERS) pa_nil))))
   (zab (zaK (zbK (K:=K) rfl PySem.F.plainAttrs_list PySem.F.slot_list_append PySem.F.type_list_append mt_append (zaG (K:=K) rfl (pv 0)) (zaa (zaN (zaa (pv 1) (zaa (pv 2) pa_nil))) pa_nil)))
   (zae (zak (zag (zai (K:=K) rfl) (by rfl) T.z_len (by rfl) (zaa (zaG (K:=K) rfl (pv 0)) pa_nil))))))))),?_⟩
  obtain ⟨_,x,F,st,h,l,rfl,E0,BB,hd,hp,q⟩:=h;have E0':=E0;walk_at "hd";have lp:=I.lp;symm;refine za4 E0' hd ?_;symm;refine zby (by omega) (by omega) ?_;symm;refine zbi (by omega) (by omega) ?_;symm;refine zdQ (by omega) ?_;symm;refine zau (by simp) fun r H1 f1 s1 e1=>?_;symm;refine zaM (s1 _ _ hhb) (by rw [length_map];omega) fun H2 b2 e2=>?_;have I1:ExIn t.C_Exam H1 e st kvs:=I.keep fun b o _ z=>s1 b o z;have I2:=I1.reader (row:=[h,l]) (I.new f1) e1 b2 e2;have hob:=I2.ob;have e1':=I2.hb;symm;have el:((e.ps++[r]).length:Int)=(st.rs.length:Int)+1:=by rw [length_append,length_singleton];omega
  rw [el];refine q H2 _ ⟨fun b o eb nb=>?_,fun b z=>?_⟩ I2.at
  ·rw [b2 _ (fun z=>nb ((hF _).mpr (by rw [z];exact own_b)))];exact s1 _ _ eb
  ·rcases ziL z with z | z
   ·exact .inl ((hF b).mpr z)
   ·exact .inr (z▸f1)
theorem zdz {K:PySem.W.Frag} {C x:Addr} {H:Hp} {F:Addr→Prop} {st:ExS} {h:Int} {l:Int} {Q:VK} {E:XK} (hE:ExAt C H x F st) (B:InB st.hs st.rs) (hd:st.dl=none) (hp:(0≤h∧h≤6∧0≤l∧l≤30∧st.rs.length < 8)) (q:∀ H' F',ExFr H H' F F'→ExAt C H' x F' { st with rs:=st.rs++[[h,l]] }→Q (.int ((st.rs.length:Int)+1)) H'):zb5 K C [.ref x,.int h,.int l] H Q E:=⟨rfl,x,F,st,h,l,rfl,hE,B,hd,hp,q⟩
def ze6 (K:PySem.W.Frag) (C:Addr):Sp:=fun vs H Q _=>vs.length=4∧∃ (a b:Addr) (s n:Int) (hs:List Int) (rs:LI),vs=[.ref a,.ref b,.int s,.int n]∧SqL K H a (hs.map V.int)∧LL K H b rs∧InB hs rs∧0≤s∧s≤100∧∀ x F H',H x=none→Same H H'→(∀ c o,H c=some o→¬F c)→ExAt C H' x F ⟨hs,rs,s,none⟩→Q (.ref x) H'
theorem zhs (T:Txt K mg t):FnOk P w K mg base CX0 3 t.f_55 t.d_55 ["_law_homes","_law_staff","_law_step_here","_law_turn"] (ze6 K t.C_Exam):=by
 have G_24:=zet (P:=P) (w:=w) (base:=base) T;have G_27:=zeu (P:=P) (w:=w) (base:=base) T;have G_25:=zdy (P:=P) (w:=w) (base:=base) T;have G_26:=zdl (P:=P) (w:=w) (base:=base) T;refine T.F_55.ok sc_55 (fun _ _ _ _ h=>h.1) fun cdv A outer s H vs Q E hr h=>by
  refine ⟨_,(zab (zax (i:=4) sc_55.nd rfl (Or.inl rfl) (zkE T.mk_Exam G_24 (hr.mono (by decide)) (by rfl) T.mg_Exam T.b_24 .nil zav))
   (zab (zaK (zbh (pv 4) T.cl_Exam T.me_27 G_27 (hr.mono (by decide)) T.b_27 .nil zav (zaa (pv 2) pa_nil)))
   (zab (zaS (zap (zbF (K:=K) rfl hr.units0) (zat (op_mod) (pv 3) zad) zad (zay _))
   (zae (za2 PassesOwn.never rfl (zaI (K:=K) rfl (pv 0)) (zar (i:=5) sc_55.nd rfl (Or.inl rfl))
   (zae (zaK (zbh (pv 4) T.cl_Exam T.me_25 G_25 (hr.mono (by decide)) T.b_25 .nil zav (zaa (pv 5) pa_nil)))))) pss_nil)
   (zab (za2 PassesOwn.never rfl (zaI (K:=K) rfl (pv 1)) (zar (i:=6) sc_55.nd rfl (Or.inl rfl))
   (zae (zaK (zbh (pv 4) T.cl_Exam T.me_26 G_26 (hr.mono (by decide)) T.b_26 .nil zav (zaa (zas (zaf (K:=K) rfl) (pv 6) zad (fun _ _=>rfl)) (zaa (zas (zaf (K:=K) rfl) (pv 6) zad (fun _ _=>rfl)) pa_nil))))))
   (zab (zaS (zap (zbF (K:=K) rfl hr.units0) (zat (op_mod) (pv 3) zad) zad (zay _))
   (zae (za2 PassesOwn.never rfl (zaI (K:=K) rfl (pv 0)) (zar (i:=5) sc_55.nd rfl (Or.inl rfl))
   (zae (zaK (zbh (pv 4) T.cl_Exam T.me_25 G_25 (hr.mono (by decide)) T.b_25 .nil zav (zaa (pv 5) pa_nil)))))) pss_nil)
   (zae (zak (pv 4)))))))),?_⟩
  obtain ⟨_,a,b,s,n,hs,rs,rfl,ha,L,B,s0,s100,q⟩:=h;have B1:=B.lp;have B2:=B.lr;obtain ⟨psr,hb,hpl,hpr⟩:=id L;have Bp:∀ i,InB (hs.take i) []:=fun i=>by
   have:=(B.take 0).takeH i;rw [take_zero] at this;exact this
  walk_at "st";refine zjG ?_;walk_at "st";refine zgC fun x dx H1 fx fdx ne s1 ex=>?_;refine zhr ex fun H2 F k2 fF E2=>⟨rfl,?_⟩
  have S2:Same H H2:=fun c o e=>k2 c o (s1 c o e) (fun z=>by rw [z,fx] at e;cases e) (fun z=>by rw [z,fdx] at e;cases e);have nF:∀ c o,H c=some o→¬F c:=fun c o e z=>by
   rcases fF c z with z | z | z
   ·rw [z,fx] at e;cases e
   ·rw [z,fdx] at e;cases e
   ·rw [s1 c o e] at z;cases z
  have B0:InB ([]:List Int) []:=by have:=Bp 0;rwa [take_zero] at this
  obtain ⟨dx2,fs2,hob2,hlk2⟩:=E2.ob;walk_at "st";refine zjG ?_;walk_at "st";refine zaO hob2 (hlk2 _ (by decide +kernel)) ?_;walk_at "st";refine ze5 E2 B0 rfl ⟨s0,s100⟩ fun H3 F3 f3 E3=>?_;obtain ⟨nF3,S3⟩:=f3.nf S2 nF;have E3':ExAt t.C_Exam H3 x F3 ⟨hs.take 0,rs.take 0,s,none⟩:=by rw [take_zero,take_zero];exact E3
  walk_at "st";refine zdw (fun σ H'=>∃ (F:Addr→Prop) (k:Nat) (v5 v6:Option V),σ=[some (.ref a),some (.ref b),some (.int s),some (.int n),some (.ref x),v5,v6]∧Same H H'∧(∀ c o,H c=some o→¬F c)∧ExAt t.C_Exam H' x F ⟨hs.take k,rs.take 0,s,none⟩∧((n % 2=0∧k=hs.length)∨(n % 2=1∧k=0))) ?_ ?_
  ·intro nx' hnx;have S':=S3;have nF':=nF3;have E':=E3';symm;refine zbk (fun h1=>?_) (fun h1=>?_)
   ·skip
    symm;refine zaT (S'.seq ha) ?_;refine zbL (xs:=hs.map V.int) (fun i σ H'=>∃ (F:Addr→Prop) (v5 v6:Option V),σ=[some (.ref a),some (.ref b),some (.int s),some (.int n),some (.ref x),v5,v6]∧Same H H'∧(∀ c o,H c=some o→¬F c)∧ExAt t.C_Exam H' x F ⟨hs.take i,rs.take 0,s,none⟩) ⟨_,_,_,rfl,S',nF',E'⟩ ?_ ?_ ?_
    ·rintro i σ H4 _ ⟨F4,w5,w6,rfl,S4,n4,E4⟩;exact S4.seq ha
    ·rintro i y σ H4 hy ⟨F4,w5,w6,rfl,S4,n4,E4⟩;obtain ⟨hi,rfl⟩:=zcq hy;obtain ⟨dx4,fs4,hob4,hlk4⟩:=E4.ob;have hh:=B.hh i hi;symm;refine zaO hob4 (hlk4 _ (by decide +kernel)) ?_;symm;refine zck E4 ((B.take 0).takeH i) rfl ⟨hh.1,hh.2,by show (hs.take i).length < 10;rw [length_take];omega⟩ fun H5 F5 f5 E5=>?_;obtain ⟨n5,S5⟩:=f5.nf S4 n4;symm;refine ⟨F5,_,_,rfl,S5,n5,?_⟩;have et:hs.take (i+1)=hs.take i++[hs.getD i 0]:=by rw [take_add_one,getElem?_eq_getElem hi,getD_eq_getElem?_getD,getElem?_eq_getElem hi];rfl
     rw [et];exact E5
    ·rintro σ H4 ⟨F4,w5,w6,rfl,S4,n4,E4⟩;rw [length_map] at E4;exact hnx _ _ ⟨F4,hs.length,_,_,rfl,S4,n4,E4,.inl ⟨h1,rfl⟩⟩
   ·symm;exact hnx _ _ ⟨F3,0,_,_,rfl,S3,nF3,E3',.inr ⟨by omega,rfl⟩⟩
  rintro σ H' ⟨F',k,v5,v6,rfl,S',nF',E',hk⟩;walk_at "st";refine zdw (fun σ H'=>∃ (F:Addr→Prop) (k:Nat) (v5 v6:Option V),σ=[some (.ref a),some (.ref b),some (.int s),some (.int n),some (.ref x),v5,v6]∧Same H H'∧(∀ c o,H c=some o→¬F c)∧ExAt t.C_Exam H' x F ⟨hs.take k,rs.take rs.length,s,none⟩∧((n % 2=0∧k=hs.length)∨(n % 2=1∧k=0))) ?_ ?_
  ·intro nx' hnx;symm;refine zaT (S'.seq hb) ?_;refine zbL (xs:=psr.map V.ref) (fun i σ H'=>∃ (F:Addr→Prop) (v5 v6:Option V),σ=[some (.ref a),some (.ref b),some (.int s),some (.int n),some (.ref x),v5,v6]∧Same H H'∧(∀ c o,H c=some o→¬F c)∧ExAt t.C_Exam H' x F ⟨hs.take k,rs.take i,s,none⟩) ⟨_,_,_,rfl,S',nF',E'⟩ ?_ ?_ ?_
   ·rintro i σ H4 _ ⟨F4,w5,w6,rfl,S4,n4,E4⟩;exact S4.seq hb
   ·rintro i y σ H4 hy ⟨F4,w5,w6,rfl,S4,n4,E4⟩;obtain ⟨hi,rfl⟩:=zfU hy;have hi':i < rs.length:=by omega
    obtain ⟨dx4,fs4,hob4,hlk4⟩:=E4.ob;have hrow:=S4 _ _ (hpr i hi');have h2:=B.r2 i hi';have hh:=B.rh i hi';have hl:=B.rl i hi';have erow:rs.getD i []=[(rs.getD i []).getD 0 0,(rs.getD i []).getD 1 0]:=len2 h2;symm;refine zaO hob4 (hlk4 _ (by decide +kernel)) ?_;symm;refine zdz (h:=(rs.getD i []).getD 0 0) (l:=(rs.getD i []).getD 1 0) E4 ((B.take i).takeH k) rfl ⟨hh.1,hh.2,hl.1,hl.2,by show (rs.take i).length < 8;rw [length_take];omega⟩ fun H5 F5 f5 E5=>?_;obtain ⟨n5,S5⟩:=f5.nf S4 n4;symm;refine ⟨F5,_,_,rfl,S5,n5,?_⟩;have et:rs.take (i+1)=rs.take i++[rs.getD i []]:=by rw [take_add_one,getElem?_eq_getElem hi',getD_eq_getElem?_getD,getElem?_eq_getElem hi'];rfl
    rw [et,erow];exact E5
   ·rintro σ H4 ⟨F4,w5,w6,rfl,S4,n4,E4⟩;rw [length_map,hpl] at E4;exact hnx _ _ ⟨F4,k,_,_,rfl,S4,n4,E4,hk⟩
  rintro σ H' ⟨F',k,v5,v6,rfl,S',nF',E',hk⟩;walk_at "st";refine zdw (fun σ H'=>∃ (F:Addr→Prop) (v5 v6:Option V),σ=[some (.ref a),some (.ref b),some (.int s),some (.int n),some (.ref x),v5,v6]∧Same H H'∧(∀ c o,H c=some o→¬F c)∧ExAt t.C_Exam H' x F ⟨hs,rs,s,none⟩) ?_ ?_
  ·intro nx' hnx;symm;refine zbk (fun h1=>?_) (fun h1=>?_)
   ·have hk0:k=0:=by omega
    subst hk0;symm;refine zaT (S'.seq ha) ?_;refine zbL (xs:=hs.map V.int) (fun i σ H'=>∃ (F:Addr→Prop) (v5 v6:Option V),σ=[some (.ref a),some (.ref b),some (.int s),some (.int n),some (.ref x),v5,v6]∧Same H H'∧(∀ c o,H c=some o→¬F c)∧ExAt t.C_Exam H' x F ⟨hs.take i,rs.take rs.length,s,none⟩) ⟨_,_,_,rfl,S',nF',E'⟩ ?_ ?_ ?_
    ·rintro i σ H4 _ ⟨F4,w5,w6,rfl,S4,n4,E4⟩;exact S4.seq ha
    ·rintro i y σ H4 hy ⟨F4,w5,w6,rfl,S4,n4,E4⟩;obtain ⟨hi,rfl⟩:=zcq hy;obtain ⟨dx4,fs4,hob4,hlk4⟩:=E4.ob;have hh:=B.hh i hi;symm;refine zaO hob4 (hlk4 _ (by decide +kernel)) ?_;symm;refine zck E4 ((B.take rs.length).takeH i) rfl ⟨hh.1,hh.2,by show (hs.take i).length < 10;rw [length_take];omega⟩ fun H5 F5 f5 E5=>?_;obtain ⟨n5,S5⟩:=f5.nf S4 n4;symm;refine ⟨F5,_,_,rfl,S5,n5,?_⟩;have et:hs.take (i+1)=hs.take i++[hs.getD i 0]:=by rw [take_add_one,getElem?_eq_getElem hi,getD_eq_getElem?_getD,getElem?_eq_getElem hi];rfl
     rw [et];exact E5
    ·rintro σ H4 ⟨F4,w5,w6,rfl,S4,n4,E4⟩;rw [length_map] at E4;rw [take_length,take_length] at E4;exact hnx _ _ ⟨F4,_,_,rfl,S4,n4,E4⟩
   ·have hk0:k=hs.length:=by omega
    subst hk0;rw [take_length,take_length] at E';symm;exact hnx _ _ ⟨F',_,_,rfl,S',nF',E'⟩
  rintro σ H' ⟨F',v5,v6,rfl,S',nF',E'⟩;symm;exact q x F' H' fx S' nF' E'
theorem zfH {C:Addr} {H:Hp} {a b:Addr} {s n:Int} {hs:List Int} {rs:LI} {Q:VK} {E:XK} (h1:SqL K H a (hs.map V.int)) (h2:LL K H b rs) (B:InB hs rs) (s0:0≤s) (s1:s≤100) (q:∀ x F H',H x=none→Same H H'→(∀ c o,H c=some o→¬F c)→ExAt C H' x F ⟨hs,rs,s,none⟩→Q (.ref x) H'):ze6 K C [.ref a,.ref b,.int s,.int n] H Q E:=⟨rfl,a,b,s,n,hs,rs,rfl,h1,h2,B,s0,s1,q⟩
def zeh (K:PySem.W.Frag):Sp:=fun vs H Q _=>vs.length=2∧∃ b c:Bool,vs=[.bl b,.bl c]∧Q (.bl (decide (b=c))) H
theorem zgM (T:Txt K mg t):FnOk P w K mg base CX0 1 t.f_49 t.d_49 ["_law_found","_law_due"] (zeh K):=by
 refine T.F_49.ok sc_49 (fun _ _ _ _ h=>h.1) fun cdv A outer s H vs Q E hr h=>by
  refine ⟨_,(zae (zak (zgi (zag (zaP (K:=K) rfl) (by rfl) T.z_isinstance (by rfl) (zaa (pv 0) (zaa (zcD (v:=.ty "bool") (u:=.type "bool") (by rfl) T.z_bool (by rfl) rfl) pa_nil))) (zfs (zb7 (zbF (K:=K) rfl hr.units0) (pv 0) (pv 1) (zay _)))))),?_⟩;obtain ⟨_,b,c,rfl,q⟩:=h;symm;refine iteT ?_;symm;exact q
theorem ze7 {H:Hp} {b c:Bool} {Q:VK} {E:XK} (q:Q (.bl (decide (b=c))) H):zeh K [.bl b,.bl c] H Q E:=⟨rfl,_,_,rfl,q⟩
local macro_rules | `(tactic| walk_at "rd1")=>`(tactic| (with_reducible refine ze7 ?_))
theorem zij {B H H':Hp} {p:Addr} {rs:LI} (R:RowsAt B p rs H) (s:Same H H'):RowsAt B p rs H':=by
 obtain ⟨a1,a2,ps,a3,a4,a5,a6⟩:=R;exact ⟨a1.trans s,a2,ps,s _ _ a3,a4,a5,fun i hi=>⟨s _ _ (a6 i hi).1,(a6 i hi).2⟩⟩
def ze8 (K:PySem.W.Frag):Sp:=fun vs H Q _=>vs.length=1∧∃ (a:Addr) (ns:List Int),vs=[.ref a]∧SqL K H a (ns.map V.int)∧ns.length≤8∧∀ p H',RowsAt H p (prsB ns) H'→Q (.ref p) H'
theorem zht (T:Txt K mg t):FnOk P w K mg base CX0 1 t.f_12 t.d_12 ["numbers"] (ze8 K):=by
 refine T.F_12.ok sc_12 (fun _ _ _ _ h=>h.1) fun cdv A outer s H vs Q E hr h=>by
  refine ⟨_,(zab (zax (i:=1) sc_12.nd rfl (Or.inl rfl) (zaN pa_nil))
   (zab (za2 PassesOwn.never rfl (zk2 (K:=K) rfl (by rfl) T.z_enumerate (zaa (pv 0) pa_nil)) (zfT (K:=K) (n:=2) rfl rfl (zcg (zar (i:=2) sc_12.nd rfl (Or.inl rfl)) (zcg (zar (i:=3) sc_12.nd rfl (Or.inl rfl)) pgs_nil)))
   (zae (za2 PassesOwn.never rfl (zaI (K:=K) rfl (zdH (zdL (K:=K) rfl) (pv 0) (zeI (zat (op_addG) (pv 2) zad)) po_none)) (zar (i:=4) sc_12.nd rfl (Or.inl rfl))
   (zae (zaK (zbK (K:=K) rfl PySem.F.plainAttrs_list PySem.F.slot_list_append PySem.F.type_list_append mt_append (pv 1) (zaa (zaN (zaa (pv 3) (zaa (pv 4) pa_nil))) pa_nil)))))))
   (zae (zak (pv 1))))),?_⟩
  obtain ⟨_,a,ns,rfl,ha,hl,q⟩:=h;have hpl:=prs_len ns;have hpl2:(prsB ns).length≤64:=Nat.le_trans hpl (Nat.mul_le_mul hl hl);symm;refine zau (by decide) fun p1 H1 f1 s1 e1=>?_;symm;refine zh1 (s1.seq ha) ?_;refine zmj (xs:=ns.map V.int) (fun i σ H'=>∃ rows v2 v3 v4,σ=[some (.ref a),some (.ref p1),v2,v3,v4]∧RowsAt H p1 rows H'∧rows++prsB (ns.drop i)=prsB ns) ⟨[],none,none,none,rfl,RowsAt.start f1 s1 e1,by simp⟩ ?_ ?_ ?_
  ·rintro i σ H' _ ⟨rows,_,_,_,rfl,R,_⟩;exact R.same.seq ha
  ·rintro i x σ H0 H' hx ⟨rows,v2,v3,v4,rfl,R0,er⟩ s0;obtain ⟨hi,rfl⟩:=zcq hx;have R:RowsAt H p1 rows H':=zij R0 s0;rw [zk9 hi] at er;symm;refine zcx (R.same.seq ha) fun p2 H2 f2 s2 e2=>?_;have np:p2≠p1:=by
    obtain ⟨zs,hz,_⟩:=R.lst;exact (zaj hz f2).symm
   have ei:(0+(i:Int)+1)=((i+1:Nat):Int):=by omega
   rw [ei,zgw,← map_drop] at e2;refine zaT (SqL.of e2) ?_;generalize ens:ns.drop (i+1)=ys at *;generalize ns.getD i 0=x at *;refine zbL (xs:=ys.map V.int) (fun j σ H'=>∃ rows2 v4,σ=[some (.ref a),some (.ref p1),some (.int (0+(i:Int))),some (.int x),v4]∧RowsAt H p1 rows2 H'∧H' p2=some (.lst (ys.map V.int))∧rows2++((ys.drop j).map (fun y=>[x,y])++prsB ys)=prsB ns) ⟨rows,v4,rfl,zij R s2,e2,er⟩ ?_ ?_ ?_
   ·rintro j σ H3 _ ⟨rows2,_,rfl,R3,e3,_⟩;exact SqL.of e3
   ·rintro j y σ H3 hy ⟨rows2,v4,rfl,R3,e3,er3⟩;obtain ⟨hj,rfl⟩:=zcq hy;obtain ⟨zs,hz,hzl⟩:=R3.lst;have hlen:rows2.length≤64:=by
     have:=congrArg List.length er3;rw [length_append] at this;omega
    symm;refine zau (by simp) fun p4 H4 f4 s4 e4=>?_;symm;refine zaM (s4 _ _ hz) (by omega) fun H5 b5 e5=>?_;symm;refine ⟨rows2++[[x,ys.getD j 0]],_,rfl,R3.push f4 s4 e4 (s4 _ _ hz) b5 e5,by rw [b5 _ np];exact s4 _ _ e3,?_⟩;rw [List.drop_eq_getElem_cons hj] at er3;rw [append_assoc,← er3,getD_eq_getElem?_getD,getElem?_eq_getElem hj];rfl
   ·rintro σ H3 ⟨rows2,v4,rfl,R3,e3,er3⟩;rw [length_map,List.drop_length,map_nil,List.nil_append] at er3;exact ⟨rows2,_,_,_,rfl,R3,by first | exact er3 | (rw [ens];exact er3)⟩
  ·rintro σ H' ⟨rows,v2,v3,v4,rfl,R,er⟩;rw [length_map,List.drop_length] at er;have er2:rows=prsB ns:=by
    rw [← er];unfold prsB;simp
   symm;rw [← er2] at q;exact q _ _ R
theorem ziU {H:Hp} {Q:VK} {E:XK} {a:Addr} {ns:List Int} (h:SqL K H a (ns.map V.int)) (hl:ns.length≤8) (q:∀ p H',RowsAt H p (prsB ns) H'→Q (.ref p) H'):ze8 K [.ref a] H Q E:=⟨rfl,a,ns,rfl,h,hl,q⟩
def ze9 (K:PySem.W.Frag):Sp:=fun vs H Q _=>vs.length=4∧∃ (a b:Addr) (k j:Int) (hs:List Int) (rs:LI),vs=[.ref a,.ref b,.int k,.int j]∧SqL K H a (hs.map V.int)∧LL K H b rs∧1≤k∧k≤hs.length∧1≤j∧j≤rs.length∧(∀ i,i < rs.length→(rs.getD i []).length=2) ∧
 Q (.bl (!decide ((rs.getD (j-1).toNat []).getD 0 0=hs.getD (k-1).toNat 0))) H
theorem zhu (T:Txt K mg t):FnOk P w K mg base CX0 1 t.f_1 t.d_1 ["papers","readers","paper","reader"] (ze9 K):=by
 refine T.F_1.ok sc_1 (fun _ _ _ _ h=>h.1) fun cdv A outer s H vs Q E hr h=>by
  refine ⟨_,(zab (zax (i:=4) sc_1.nd rfl (Or.inl rfl) (zas (zaf (K:=K) rfl) (zas (zaf (K:=K) rfl) (pv 1) (zat (op_sub) (pv 3) zad) (fun _ _=>rfl)) zad (fun _ _=>rfl)))
   (zae (zak (zb7 (zc8 (K:=K) rfl hr.units0) (pv 4) (zas (zaf (K:=K) rfl) (pv 0) (zat (op_sub) (pv 2) zad) (fun _ _=>rfl)) (zay _))))),?_⟩
  obtain ⟨_,a,b,k,j,hs,rs,rfl,ha,⟨ps,hb,hl,hr⟩,k1,k2,j1,j2,h2,q⟩:=h;have hj:(j-1).toNat < rs.length:=by omega
  have hr':=hr _ hj;have h2':=h2 _ hj;symm;exact q
theorem ziV {H:Hp} {a b:Addr} {k j:Int} {hs:List Int} {rs:LI} {Q:VK} {E:XK} (h1:SqL K H a (hs.map V.int)) (h2:LL K H b rs) (k1:1≤k) (k2:k≤hs.length) (j1:1≤j) (j2:j≤rs.length) (h3:∀ i,i < rs.length→(rs.getD i []).length=2)
  (q:Q (.bl (!decide ((rs.getD (j-1).toNat []).getD 0 0=hs.getD (k-1).toNat 0))) H):ze9 K [.ref a,.ref b,.int k,.int j] H Q E:=⟨rfl,a,b,k,j,hs,rs,rfl,h1,h2,k1,k2,j1,j2,h3,q⟩
def mayB (hs:List Int) (rs:LI) (k:Int) (i:Nat):Bool:=!decide ((rs.getD i []).getD 0 0=hs.getD (k-1).toNat 0)
def zah (hs:List Int) (rs:LI) (k:Int):List Int:=((List.range rs.length).filter (mayB hs rs k)).map fun i:Nat=>1+(i:Int)
def zdq (K:PySem.W.Frag):Sp:=fun vs H Q _=>vs.length=3∧∃ (a b:Addr) (k:Int) (hs:List Int) (rs:LI),vs=[.ref a,.ref b,.int k]∧SqL K H a (hs.map V.int)∧LL K H b rs∧1≤k∧k≤hs.length∧rs.length≤1000∧(∀ i,i < rs.length→(rs.getD i []).length=2) ∧
 ∀ p H2,H p=none→Same H H2→H2 p=some (.lst ((zah hs rs k).map V.int))→Q (.ref p) H2
theorem zcu (T:Txt K mg t):FnOk P w K mg base CX0 2 t.f_2 t.d_2 ["papers","readers","paper"] (zdq K):=by
 have G_1:=zhu (P:=P) (w:=w) (base:=base) T;refine T.F_2.ok sc_2 (fun _ _ _ _ h=>h.1) fun cdv A outer s H vs Q E hr h=>by
  refine ⟨_,(zae (zak (zba (zaq (sc:=zac s_2) (XN:=["papers","readers","paper"]) (N:=["reader","papers","readers","paper"]) (own:=1) (js:=[0,1,2]) rfl rfl (by decide +kernel)) rfl (zb6 (by rfl) T.z_range (zaa zad (zaa (zat (op_addG) (zag (zai (K:=K) rfl) (by rfl) T.z_len (by rfl) (zaa (pv 1) pa_nil)) zad) pa_nil))) (fun _ _ _ _ _=>(zar (i:=0) (show List.Nodup [(Str.ofString "reader"),(Str.ofString "papers"),(Str.ofString "readers"),(Str.ofString "paper")] by decide +kernel) rfl (Or.inl rfl))) (fun _ _ _ _ _=>(zcp (zaw (K:=K) rfl (zal G_1 (hr.mono (by decide)) (by rfl) T.m_1 T.F_1.kp T.b_1 .nil zav (zaa (pv 1) (zaa (pv 2) (zaa (pv 3) (zaa (pv 0) pa_nil))))) (fun _=>rfl)))) (fun _ _ _ _ _=>(pv 0))))),?_⟩;obtain ⟨_,a,b,k,hs,rs,rfl,ha,L,k1,k2,hz,h2,q⟩:=h;obtain ⟨ps,hb,hl,hr'⟩:=id L;symm;refine zeN ⟨by omega,by omega,by omega,by omega⟩ ?_;have en:((ps.length:Int)+1-1).toNat=rs.length:=by omega
  rw [en];refine zeP (zbE _ _ _) (by omega) (mayB hs rs k) (fun i=>1+(i:Int)) (fun i H' Q' hi s q'=>?_) (fun i H' Q' hi s hc q'=>?_) fun p H2 f s e=>q p H2 f s e
  ·have ha':=s.seq ha;have L':=L.same s;symm;refine ziV ha' L' k1 k2 (by omega) (by omega) h2 ?_;symm;have e:(1+(i:Int)-1).toNat=i:=by omega
   rw [e];exact q'
  ·symm;exact q'
theorem zcK {H:Hp} {a b:Addr} {k:Int} {hs:List Int} {rs:LI} {Q:VK} {E:XK} (h1:SqL K H a (hs.map V.int)) (h2:LL K H b rs) (k1:1≤k) (k2:k≤hs.length) (hz:rs.length≤1000) (h3:∀ i,i < rs.length→(rs.getD i []).length=2)
  (q:∀ p H2,H p=none→Same H H2→H2 p=some (.lst ((zah hs rs k).map V.int))→Q (.ref p) H2):zdq K [.ref a,.ref b,.int k] H Q E:=⟨rfl,a,b,k,hs,rs,rfl,h1,h2,k1,k2,hz,h3,q⟩
def zfa (K:PySem.W.Frag):Sp:=fun vs H Q _=>vs.length=2∧∃ (b:Addr) (rows:LI) (x:Int),vs=[.ref b,.int x]∧LL K H b rows∧rows.length≤20∧∀ H',Same H H'→Q (.int (cntB rows x:Int)) H'
theorem zhv (T:Txt K mg t):FnOk P w K mg base CX0 1 t.f_9 t.d_9 ["rows","reader"] (zfa K):=by
 refine T.F_9.ok sc_9 (fun _ _ _ _ h=>h.1) fun cdv A outer s H vs Q E hr h=>by
  refine ⟨_,(zae (zak (zag (zai (K:=K) rfl) (by rfl) T.z_len (by rfl) (zaa (zba (zaq (sc:=zac s_9) (XN:=["rows","reader"]) (N:=["row","reader"]) (own:=1) (js:=[1]) rfl rfl (by decide +kernel)) rfl (zaI (K:=K) rfl (pv 0)) (fun _ _ _ _ _=>(zar (i:=0) (show List.Nodup [(Str.ofString "row"),(Str.ofString "reader")] by decide +kernel) rfl (Or.inl rfl))) (fun _ _ _ _ _=>(zcp (zap (zeg (K:=K) rfl (zdk hr)) (pv 1) (pv 0) (by with_unfolding_all rfl)))) (fun _ _ _ _ _=>(pv 0))) pa_nil)))),?_⟩;obtain ⟨_,b,rows,x,rfl,L,hl,q⟩:=h;obtain ⟨ps,hb,hpl,hr⟩:=id L;symm;refine zaT hb ?_;refine zez hb hpl (by omega) (x:=x) (fun i H' Q' hi s q'=>?_) fun p H2 zs f s e ez=>?_
  ·have hrow:=s _ _ (hr i hi);symm;exact q'
  symm;rw [ez];exact q _ s
theorem ziW {H:Hp} {b:Addr} {rows:LI} {x:Int} {Q:VK} {E:XK} (h:LL K H b rows) (hl:rows.length≤20) (q:∀ H',Same H H'→Q (.int (cntB rows x:Int)) H'):zfa K [.ref b,.int x] H Q E:=⟨rfl,b,rows,x,rfl,h,hl,q⟩
theorem zlm (rs rows:LI) (n:Nat) (hn:n=rs.length):((List.range n).filter fun _=>true).map (fun i=>V.int ((rs.getD i []).getD 1 0-(cntB rows (1+(i:Int)):Int)))=(za1 rs rows).map V.int:=by
 subst hn;rw [filter_eq_self.mpr (fun _ _=>rfl)];unfold za1;rw [map_map];refine map_congr_left fun i _=>?_;show V.int _=V.int _;rw [Int.add_comm 1 (i:Int)]
def zdR (K:PySem.W.Frag):Sp:=fun vs H Q _=>vs.length=2∧∃ (a b:Addr) (rs rows:LI),vs=[.ref a,.ref b]∧LL K H a rs∧LL K H b rows∧rs.length≤8∧rows.length≤20∧(∀ i,i < rs.length→(rs.getD i []).length=2)∧∀ p H',H p=none→Same H H'→H' p=some (.lst ((za1 rs rows).map V.int))→Q (.ref p) H'
theorem zcL (T:Txt K mg t):FnOk P w K mg base CX0 2 t.f_8 t.d_8 ["readers","rows"] (zdR K):=by
 have G_9:=zhv (P:=P) (w:=w) (base:=base) T;refine T.F_8.ok sc_8 (fun _ _ _ _ h=>h.1) fun cdv A outer s H vs Q E hr h=>by
  refine ⟨_,(zae (zak (zba (zaq (sc:=zac s_8) (XN:=["readers","rows"]) (N:=["reader","row","rows"]) (own:=2) (js:=[1]) rfl rfl (by decide +kernel)) rfl (zk3 (K:=K) rfl (by rfl) T.z_enumerate (zaa (pv 0) pa_nil)) (fun _ _ _ _ _=>(zfT (K:=K) (n:=2) rfl rfl (zcg (zar (i:=0) (show List.Nodup [(Str.ofString "reader"),(Str.ofString "row"),(Str.ofString "rows")] by decide +kernel) rfl (Or.inl rfl)) (zcg (zar (i:=1) (show List.Nodup [(Str.ofString "reader"),(Str.ofString "row"),(Str.ofString "rows")] by decide +kernel) rfl (Or.inl rfl)) pgs_nil)))) (fun _ _ _ _ _=>zbl) (fun _ _ _ _ _=>(zat (op_sub) (zas (zaf (K:=K) rfl) (pv 1) zad (fun _ _=>rfl)) (zal G_9 (hr.mono (by decide)) (by rfl) T.m_9 T.F_9.kp T.b_9 .nil zav (zaa (pv 2) (zaa (pv 0) pa_nil)))))))),?_⟩;obtain ⟨_,a,b,rs,rows,rfl,L1,L2,l1,l2,r2,q⟩:=h;obtain ⟨ps,ha,hpl,hpr⟩:=id L1;have en:(ps.map V.ref).length=rs.length:=by rw [length_map];exact hpl
  symm;refine zh1 ha ?_;refine zgz (zcr.enum ha) (by omega) (fun _=>true) (fun i=>.int ((rs.getD i []).getD 1 0-(cntB rows (1+(i:Int)):Int))) (fun i H' Q' _ _ q'=>q' _ (Same.refl _)) (fun i H' Q' hi s _ q'=>?_) fun p H2 f s e=>?_
  ·have hi':i < rs.length:=by omega
   have ex:(ps.map V.ref).getD i .non=.ref (ps.getD i 0):=by
    rw [getD_eq_getElem?_getD,getElem?_map,getElem?_eq_getElem (by omega),getD_eq_getElem?_getD,getElem?_eq_getElem (by omega)];rfl
   rw [ex];have h2:=r2 i hi';have hrow:=s _ _ (hpr i hi');show (_:TE) (some (.int (1+(i:Int)))::some (.ref (ps.getD i 0))::_) _ _;symm;refine ziW (L2.same s) l2 fun H3 s3=>?_;symm;exact q' _ s3
  rw [zlm rs rows _ en] at e;exact q p H2 f s e
theorem zcM {H:Hp} {a b:Addr} {rs rows:LI} {Q:VK} {E:XK} (h1:LL K H a rs) (h2:LL K H b rows) (l1:rs.length≤8) (l2:rows.length≤20) (r2:∀ i,i < rs.length→(rs.getD i []).length=2)
  (q:∀ p H',H p=none→Same H H'→H' p=some (.lst ((za1 rs rows).map V.int))→Q (.ref p) H'):zdR K [.ref a,.ref b] H Q E:=⟨rfl,a,b,rs,rows,rfl,h1,h2,l1,l2,r2,q⟩
def zhw (rs rows:LI):Bool:=(za1 rs rows).all fun x=>decide (0≤x)
theorem zln (ns:List Int) (n:Nat) (hn:n=ns.length):((List.range n).filter fun _=>true).map (fun i=>V.bl (decide (0≤ns.getD i 0)))=(ns.map fun x=>decide (0≤x)).map V.bl:=by
 subst hn;rw [filter_eq_self.mpr (fun _ _=>rfl),map_map];refine ext_getElem (by simp) fun i h1 h2=>?_;simp at h1;simp [h1]
theorem zgN {rs rows:LI}:zhw rs rows=true↔∀ k,k < rs.length→(cntB rows ((k:Int)+1):Int)≤(rs.getD k []).getD 1 0:=by
 unfold zhw za1;rw [all_map,all_eq_true];constructor
 ·intro h k hk;have:=h k (mem_range.mpr hk);simp only [Function.comp_apply,decide_eq_true_eq] at this;omega
 ·intro h k hk;have:=h k (mem_range.mp hk);simp only [Function.comp_apply,decide_eq_true_eq];omega
def zcl (K:PySem.W.Frag):Sp:=fun vs H Q _=>vs.length=2∧∃ (a b:Addr) (rs rows:LI),vs=[.ref a,.ref b]∧LL K H a rs∧LL K H b rows∧rs.length≤8∧rows.length≤20∧(∀ i,i < rs.length→(rs.getD i []).length=2)∧∀ H',Same H H'→Q (.bl (zhw rs rows)) H'
theorem zdS (T:Txt K mg t):FnOk P w K mg base CX0 3 t.f_7 t.d_7 ["readers","rows"] (zcl K):=by
 have G_8:=zcL (P:=P) (w:=w) (base:=base) T;refine T.F_7.ok sc_7 (fun _ _ _ _ h=>h.1) fun cdv A outer s H vs Q E hr h=>by
  refine ⟨_,(zae (zak (zag (zjW (K:=K) rfl rfl) (by rfl) T.z_all (by rfl) (zaa (zba (zaq (sc:=zac s_7) (XN:=["readers","rows"]) (N:=["left"]) (own:=1) (js:=[]) rfl rfl (by decide +kernel)) rfl (zaI (K:=K) rfl (zal G_8 (hr.mono (by decide)) (by rfl) T.m_8 T.F_8.kp T.b_8 .nil zav (zaa (pv 0) (zaa (pv 1) pa_nil)))) (fun _ _ _ _ _=>(zar (i:=0) (show List.Nodup [(Str.ofString "left")] by decide +kernel) rfl (Or.inl rfl))) (fun _ _ _ _ _=>zbl) (fun _ _ _ _ _=>(zb7 (op_ge) (pv 0) zad (zay _)))) pa_nil)))),?_⟩;obtain ⟨_,a,b,rs,rows,rfl,L1,L2,l1,l2,r2,q⟩:=h;symm;refine zcM L1 L2 l1 l2 r2 fun p H1 f1 s1 e1=>?_;have hll:(za1 rs rows).length=rs.length:=by unfold za1;rw [length_map,length_range]
  have hq:(za1 rs rows).all (fun x=>decide (0≤x))=zhw rs rows:=rfl;generalize za1 rs rows=ns at *;have hn:(ns.map V.int).length=ns.length:=length_map ..;refine zaT (SqL.of e1) ?_;refine zcj (zgz (zcr.one (zbe (SqL.of e1))) (by omega) (fun _=>true) (fun i=>.bl (decide (0≤ns.getD i 0))) (fun i H' Q' _ _ q'=>q' _ (Same.refl _)) (fun i H' Q' hi s _ q'=>?_) fun p2 H2 f2 s2 e2=>?_)
  ·have ex:(ns.map V.int).getD i .non=.int (ns.getD i 0):=by
    rw [getD_eq_getElem?_getD,getElem?_map,getElem?_eq_getElem (by omega),getD_eq_getElem?_getD,getElem?_eq_getElem (by omega)];rfl
   rw [ex];show (_:TE) (some (.int (ns.getD i 0))::_) _ _;symm;exact q' _ (Same.refl _)
  rw [zln ns _ hn] at e2;refine zk0 (SqL.of e2) ?_;rw [all_map];have e3:(ns.all (id∘fun x=>decide (0≤x)))=zhw rs rows:=hq;rw [e3];exact q _ (s1.trans s2)
theorem zd8 {H:Hp} {a b:Addr} {rs rows:LI} {Q:VK} {E:XK} (h1:LL K H a rs) (h2:LL K H b rows) (l1:rs.length≤8) (l2:rows.length≤20) (r2:∀ i,i < rs.length→(rs.getD i []).length=2)
  (q:∀ H',Same H H'→Q (.bl (zhw rs rows)) H'):zcl K [.ref a,.ref b] H Q E:=⟨rfl,a,b,rs,rows,rfl,h1,h2,l1,l2,r2,q⟩
theorem znU {row:List Int} {m:Nat} (nd:row.Nodup) (h:∀ r∈row,1≤r∧r≤m):row.length≤m:=by
 rw [← zj0 nd h,znu];exact Nat.le_trans (length_filter_le _ _) (by simp)
def flds (A G S:Addr):List (Str×V):=putF "spare" (.ref S) (putF "given" (.ref G) (putF "allowed" (.ref A) []))
theorem znV (A G S:Addr):(flds A G S).lookup ("spare" : Str)=some (.ref S):=by
 unfold flds;rw [zaL,if_pos rfl]
theorem zlC (A G S:Addr):(flds A G S).lookup ("given" : Str)=some (.ref G):=by
 unfold flds;rw [zaL,if_neg (by decide +kernel),zaL,if_pos rfl]
theorem znW (A G S:Addr):(flds A G S).lookup ("allowed" : Str)=some (.ref A):=by
 unfold flds;rw [zaL,if_neg (by decide +kernel),zaL,if_neg (by decide +kernel),zaL,if_pos rfl]
theorem zhx (A G S:Addr) {m:Str} (h1:¬m = "spare") (h2:¬m = "given") (h3:¬m = "allowed"):(flds A G S).lookup m=none:=by
 unfold flds;rw [zaL,if_neg h1,zaL,if_neg h2,zaL,if_neg h3];rfl
structure AtAd where
 x:Addr
 A:Addr
 G:Addr
 S:Addr
 aps:List Addr
 gps:List Addr
structure Att (C:Addr) (H:Hp) (d:AtAd) (al gv:LI) (sp:List Int):Prop where
 ob:∃ dx,H d.x=some (.ins C dx (flds d.A d.G d.S))
 ha:H d.A=some (.lst (d.aps.map V.ref))
 la:d.aps.length=al.length
 ra:∀ i,i < al.length→H (d.aps.getD i 0)=some (.lst ((al.getD i []).map V.int))∧d.aps.getD i 0∉d.gps∧d.aps.getD i 0≠d.S
 hg:H d.G=some (.lst (d.gps.map V.ref))
 lg:d.gps.length=gv.length
 ng:d.gps.Nodup
 rg:∀ i,i < gv.length→H (d.gps.getD i 0)=some (.lst ((gv.getD i []).map V.int))
 hs:H d.S=some (.lst (sp.map V.int))
 Sg:d.S∉d.gps
 Gg:d.G∉d.gps
 GS:d.G≠d.S
 Ag:d.A∉d.gps
 AS:d.A≠d.S
theorem Att.row {C:Addr} {H:Hp} {d:AtAd} {al gv:LI} {sp:List Int} (T:Att C H d al gv sp) {b:Addr} (hb:b∈d.gps):∃ xs:List V,H b=some (.lst xs):=by
 obtain ⟨i,hi,e⟩:=mem_getD (d:=0) hb;have:=T.rg i (by have:=T.lg;omega);rw [e] at this;exact ⟨_,this⟩
theorem Att.xg {C:Addr} {H:Hp} {d:AtAd} {al gv:LI} {sp:List Int} (T:Att C H d al gv sp):d.x∉d.gps:=fun h=>by
 obtain ⟨xs,e⟩:=T.row h;obtain ⟨dx,e2⟩:=T.ob;rw [e] at e2
 cases e2
theorem Att.xS {C:Addr} {H:Hp} {d:AtAd} {al gv:LI} {sp:List Int} (T:Att C H d al gv sp):d.x≠d.S:=fun h=>by
 obtain ⟨dx,e2⟩:=T.ob;rw [h,T.hs] at e2
 cases e2
theorem Att.keep {C:Addr} {H H':Hp} {d:AtAd} {al gv:LI} {sp:List Int} {D:Addr} {kvs:List (Key×V)} (T:Att C H d al gv sp) (hD:H D=some (.dK kvs)) (k:∀ b,b≠D→H' b=H b):Att C H' d al gv sp:=by
 have nl:∀ {b:Addr} {o:HO},H b=some o→(∀ kvs,o≠.dK kvs)→H' b=some o:=fun {b o} e ne=>by
  rw [k b (fun z=>by subst z;rw [hD] at e;exact ne kvs (Option.some.inj e).symm)];exact e
 obtain ⟨dx,ob⟩:=T.ob;exact ⟨⟨dx,nl ob (fun _ z=>by cases z)⟩,nl T.ha (fun _ z=>by cases z),T.la,fun i hi=>⟨nl (T.ra i hi).1 (fun _ z=>by cases z),(T.ra i hi).2⟩,nl T.hg (fun _ z=>by cases z),T.lg,T.ng,fun i hi=>nl (T.rg i hi) (fun _ z=>by cases z),nl T.hs (fun _ z=>by cases z),T.Sg,T.Gg,T.GS,T.Ag,T.AS⟩
theorem Att.same {C:Addr} {H H':Hp} {d:AtAd} {al gv:LI} {sp:List Int} (T:Att C H d al gv sp) (s:Same H H'):Att C H' d al gv sp:=by
 obtain ⟨dx,ob⟩:=T.ob;exact ⟨⟨dx,s _ _ ob⟩,s _ _ T.ha,T.la,fun i hi=>⟨s _ _ (T.ra i hi).1,(T.ra i hi).2⟩,s _ _ T.hg,T.lg,T.ng,fun i hi=>s _ _ (T.rg i hi),s _ _ T.hs,T.Sg,T.Gg,T.GS,T.Ag,T.AS⟩
theorem ziX {ps:List Addr} (nd:ps.Nodup) {i j:Nat} (hi:i < ps.length) (hj:j < ps.length) (h:ps.getD i 0=ps.getD j 0):i=j:=by
 rw [getD_eq_getElem?_getD,getD_eq_getElem?_getD,getElem?_eq_getElem hi,getElem?_eq_getElem hj] at h;exact (getElem_inj nd).mp h
theorem Att.setRow {C:Addr} {H H':Hp} {d:AtAd} {al gv:LI} {sp row:List Int} {p:Nat} (T:Att C H d al gv sp) (hp:p < gv.length) (b:But (d.gps.getD p 0) H H') (e:H' (d.gps.getD p 0)=some (.lst (row.map V.int))):Att C H' d al (gv.set p row) sp:=by
 have l:=T.lg;have hm:d.gps.getD p 0∈d.gps:=getD_mem (by omega);have nm:∀ {a:Addr},a∉d.gps→a≠d.gps.getD p 0:=fun h z=>h (z▸hm);obtain ⟨dx,ob⟩:=T.ob;refine ⟨⟨dx,by rw [b _ (nm T.xg)];exact ob⟩,by rw [b _ (nm T.Ag)];exact T.ha,T.la,fun i hi=>⟨by rw [b _ (nm (T.ra i hi).2.1)];exact (T.ra i hi).1,(T.ra i hi).2⟩,by rw [b _ (nm T.Gg)];exact T.hg,by rw [length_set];exact l,T.ng,fun i hi=>?_,by rw [b _ (nm T.Sg)];exact T.hs,T.Sg,T.Gg,T.GS,T.Ag,T.AS⟩;rw [length_set] at hi;rw [zbo hp]
 by_cases ei:i=p
 ·subst ei;rw [if_pos rfl];exact e
 ·rw [if_neg ei,b _ (fun z=>ei (ziX T.ng (by omega) (by omega) z))];exact T.rg i hi
theorem Att.setSp {C:Addr} {H H':Hp} {d:AtAd} {al gv:LI} {sp sp':List Int} (T:Att C H d al gv sp) (b:But d.S H H') (e:H' d.S=some (.lst (sp'.map V.int))):Att C H' d al gv sp':=by
 have l:=T.lg;obtain ⟨dx,ob⟩:=T.ob;refine ⟨⟨dx,by rw [b _ T.xS];exact ob⟩,by rw [b _ T.AS];exact T.ha,T.la,fun i hi=>⟨by rw [b _ (T.ra i hi).2.2];exact (T.ra i hi).1,(T.ra i hi).2⟩,by rw [b _ T.GS];exact T.hg,l,T.ng,fun i hi=>?_,e,T.Sg,T.Gg,T.GS,T.Ag,T.AS⟩;rw [b _ (fun z=>T.Sg (z▸getD_mem (by omega)))];exact T.rg i hi
def Frm (d:AtAd) (D:Addr) (H H':Hp):Prop:=∀ b o,H b=some o→b∉d.gps→b≠d.S→b≠D→H' b=some o
theorem Frm.refl {d:AtAd} {D:Addr} {H:Hp}:Frm d D H H:=fun _ _ e _ _ _=>e
theorem Frm.trans {d:AtAd} {D:Addr} {H H1 H2:Hp} (a:Frm d D H H1) (b:Frm d D H1 H2):Frm d D H H2:=fun c o e h1 h2 h3=>b c o (a c o e h1 h2 h3) h1 h2 h3
theorem Frm.but {d:AtAd} {D a:Addr} {H H':Hp} (b:But a H H') (h:a∈d.gps∨a=d.S∨a=D):Frm d D H H':=fun c o e h1 h2 h3=>by
 rw [b c (fun z=>by subst z;rcases h with h | h | h <;> contradiction)];exact e
def KsOk (lim ks:List Int):Prop:=ks.Nodup∧∀ k∈ks,1≤k∧k≤lim.length
theorem KsOk.push {lim ks:List Int} {x:Int} (h:KsOk lim ks) (hx:x∉ks) (h1:1≤x∧x≤lim.length):KsOk lim (ks++[x]):=by
 refine ⟨nodup_append.mpr ⟨h.1,by simp,fun a ha b hb=>?_⟩,fun k hk=>?_⟩
 ·have:b=x:=by simpa using hb
  subst this;intro e;subst e;exact hx ha
 ·rcases mem_append.mp hk with z | z
  ·exact h.2 k z
  ·have:k=x:=by simpa using z
   subst this;exact h1
def KpX (x:Addr) (H H':Hp):Prop:=∀ c o,H c=some o→c≠x→H' c=some o
theorem KpX.of {x:Addr} {H H':Hp} (s:Same H H'):KpX x H H':=fun c o e _=>s c o e
theorem KpX.but {x:Addr} {H H':Hp} (b:But x H H'):KpX x H H':=fun c o e n=>by rw [b c n];exact e
theorem KpX.trans {x:Addr} {H H1 H2:Hp} (a:KpX x H H1) (b:KpX x H1 H2):KpX x H H2:=fun c o e n=>b c o (a c o e n) n
theorem KpX.seq {K:PySem.W.Frag} {x C dx:Addr} {fs:List (Str×V)} {H H':Hp} {a:Addr} {xs:List V} (k:KpX x H H') (hx:H x=some (.ins C dx fs)) (h:SqL K H a xs):SqL K H' a xs:=by
 rcases h with (h | ⟨o,h⟩) | h
 ·exact .inl (.inl (k _ _ h (fun z=>by subst z;rw [hx] at h;cases h)))
 ·exact .inl (.inr ⟨o,k _ _ h (fun z=>by subst z;rw [hx] at h;cases h)⟩)
 ·exact .inr h
theorem KpX.ll {K:PySem.W.Frag} {x C dx:Addr} {fs:List (Str×V)} {H H':Hp} {a:Addr} {rs:LI} (k:KpX x H H') (hx:H x=some (.ins C dx fs)) (h:LL K H a rs):LL K H' a rs:=by
 obtain ⟨ps,h1,h2,h3⟩:=h;exact ⟨ps,k.seq hx h1,h2,fun i hi=>k _ _ (h3 i hi) (fun z=>by have:=h3 i hi;rw [z,hx] at this;cases this)⟩
def zcc (K:PySem.W.Frag) (C:Addr):Sp:=fun vs H Q _=>vs.length=3∧∃ (x dx a b:Addr) (hs:List Int) (rs:LI),vs=[.ref x,.ref a,.ref b]∧H x=some (.ins C dx [])∧SqL K H a (hs.map V.int)∧LL K H b rs∧InB hs rs ∧
 ∀ (d:AtAd) H',d.x=x→(∀ c o,H c=some o→c≠x→H' c=some o)→(∀ g∈d.gps,H g=none)→H d.S=none →
  Att C H' d ((List.range hs.length).map fun i:Nat=>zah hs rs (1+(i:Int))) ((List.range hs.length).map fun _=>[]) ((List.range rs.length).map fun i=>(rs.getD i []).getD 1 0)→Q .non H'
theorem zdA (T:Txt K mg t):FnOk P w K mg base CX0 3 t.f_Attempt___init__ t.d_Attempt___init__ ["self","papers","readers"] (zcc K t.C_Attempt):=by
 have G_2:=zcu (P:=P) (w:=w) (base:=base) T;refine T.F_Attempt___init__.ok sc_Attempt___init__ (fun _ _ _ _ h=>h.1) fun cdv A outer s H vs Q E hr h=>by
  refine ⟨_,(zab (zbQ (K:=K) rfl (pv 0) (zba (zaq (sc:=zac s_Attempt___init__) (XN:=["self","papers","readers"]) (N:=["paper","papers","readers"]) (own:=1) (js:=[1,2]) rfl rfl (by decide +kernel)) rfl (zb6 (by rfl) T.z_range (zaa zad (zaa (zat (op_addG) (zag (zai (K:=K) rfl) (by rfl) T.z_len (by rfl) (zaa (pv 1) pa_nil)) zad) pa_nil))) (fun _ _ _ _ _=>(zar (i:=0) (show List.Nodup [(Str.ofString "paper"),(Str.ofString "papers"),(Str.ofString "readers")] by decide +kernel) rfl (Or.inl rfl))) (fun _ _ _ _ _=>zbl) (fun _ _ _ _ _=>(zal G_2 (hr.mono (by decide)) (by rfl) T.m_2 T.F_2.kp T.b_2 .nil zav (zaa (pv 1) (zaa (pv 2) (zaa (pv 0) pa_nil)))))))
   (zab (zbQ (K:=K) rfl (pv 0) (zba (zaq (sc:=zac s_Attempt___init__) (XN:=["self","papers","readers"]) (N:=["house"]) (own:=1) (js:=[]) rfl rfl (by decide +kernel)) rfl (zaI (K:=K) rfl (pv 1)) (fun _ _ _ _ _=>(zar (i:=0) (show List.Nodup [(Str.ofString "house")] by decide +kernel) rfl (Or.inl rfl))) (fun _ _ _ _ _=>zbl) (fun _ _ _ _ _=>(zaN pa_nil))))
   (zae (zbQ (K:=K) rfl (pv 0) (zba (zaq (sc:=zac s_Attempt___init__) (XN:=["self","papers","readers"]) (N:=["row"]) (own:=1) (js:=[]) rfl rfl (by decide +kernel)) rfl (zaI (K:=K) rfl (pv 2)) (fun _ _ _ _ _=>(zar (i:=0) (show List.Nodup [(Str.ofString "row")] by decide +kernel) rfl (Or.inl rfl))) (fun _ _ _ _ _=>zbl) (fun _ _ _ _ _=>(zas (zaf (K:=K) rfl) (pv 0) zad (fun _ _=>rfl)))))))),?_⟩
  obtain ⟨_,x,dx,a,b,hs,rs,rfl,hx,ha,L,B,q⟩:=h;obtain ⟨psr,hb,hpl,hpr⟩:=id L;have B1:=B.lp;have B2:=B.lr;have hcl:=T.cl_Attempt;have hnA:=T.n_Attempt_allowed;have hnG:=T.n_Attempt_given;have hnS:=T.n_Attempt_spare;symm;refine zeN ⟨by omega,by omega,by omega,by omega⟩ ?_;have en:((hs.length:Int)+1-1).toNat=hs.length:=by omega
  rw [en];refine zcj (zca (zcr.one (zbE _ _ _)) (by omega) (fun i:Nat=>zah hs rs (1+(i:Int))) (fun i H' Q' hi s q'=>?_) fun p1 H1 R1=>?_)
  ·show (_:TE) (some (.int (1+(i:Int)))::_) _ _;symm;exact zcK (s.seq ha) (L.same s) (by omega) (by omega) (by omega) B.r2 q'
  obtain ⟨s1,f1,ps1,e1,l1,nd1,r1⟩:=id R1;rw [length_map,length_range] at l1 r1;symm;refine za5 (s1 _ _ hx) hcl hnA (by show 0 < 1000;decide) fun H2 b2 e2=>?_;have nx:∀ {c:Addr},H c=none→c≠x:=fun h z=>by subst z;rw [hx] at h;cases h
  have k2:KpX x H H2:=(KpX.of s1).trans (KpX.but b2);have ha2:=k2.seq hx ha;have L2:=k2.ll hx L;obtain ⟨psr2,hb2,hpl2,hpr2⟩:=id L2;symm;refine zaT ha2 ?_;have ehl:(hs.map V.int).length=hs.length:=length_map ..;refine zcj (zca (zcr.one (zbe ha2)) (by omega) (fun _=>[]) (fun i H' Q' hi s q'=>?_) fun p3 H3 R3=>?_)
  ·show (_:TE) (some ((hs.map V.int).getD i .non)::_) _ _;symm;exact zau (by simp) q'
  obtain ⟨s3,f3,ps3,e3,l3,nd3,r3⟩:=id R3;rw [length_map,length_range,ehl] at l3 r3;symm;refine za5 (s3 _ _ e2) hcl hnG (by show 1 < 1000;decide) fun H4 b4 e4=>?_;have k4:KpX x H2 H4:=(KpX.of s3).trans (KpX.but b4);have L4:=k4.ll e2 L2;obtain ⟨psr4,hb4,hpl4,hpr4⟩:=id L4;have er4:(psr4.map V.ref).length=rs.length:=by rw [length_map];exact hpl4
  symm;refine zaT hb4 ?_;refine zdM (zbe hb4) (by omega) (fun i=>(rs.getD i []).getD 1 0) (fun i H' Q' hi s q'=>?_) fun p5 H5 f5 s5 e5=>?_
  ·have hi':i < rs.length:=by omega
   have ex:(psr4.map V.ref).getD i .non=.ref (psr4.getD i 0):=by
    rw [getD_eq_getElem?_getD,getElem?_map,getElem?_eq_getElem (by omega),getD_eq_getElem?_getD,getElem?_eq_getElem (by omega)];rfl
   rw [ex];have h2:=B.r2 i hi';have hrow:=s _ _ (hpr4 i hi');symm;exact q'
  symm;refine za5 (s5 _ _ e4) hcl hnS (by show 2 < 1000;decide) fun H6 b6 e6=>?_;rw [er4] at e5;have k6:KpX x H4 H6:=(KpX.of s5).trans (KpX.but b6);have c12:∀ {c:Addr} {o:HO},H1 c=some o→c≠x→H2 c=some o:=fun e h=>by rw [b2 _ h];exact e
  have c34:∀ {c:Addr} {o:HO},H3 c=some o→c≠x→H4 c=some o:=fun e h=>by rw [b4 _ h];exact e
  have c56:∀ {c:Addr} {o:HO},H5 c=some o→c≠x→H6 c=some o:=fun e h=>by rw [b6 _ h];exact e
  have n2:∀ {c:Addr},H2 c=none→c≠x:=fun h z=>by subst z;rw [e2] at h;cases h
  have n4:∀ {c:Addr},H4 c=none→c≠x:=fun h z=>by subst z;rw [e4] at h;cases h
  have fr2:∀ {c:Addr},H2 c=none→H c=none:=fun h=>s1.free (by rw [← b2 _ (n2 h)];exact h);have fr4:∀ {c:Addr},H4 c=none→H2 c=none:=fun h=>s3.free (by rw [← b4 _ (n4 h)];exact h);have hp1x:p1≠x:=nx f1;have hp3x:p3≠x:=n2 f3;have hp5x:p5≠x:=n4 f5;have A2:=c12 e1 hp1x;have A4:=k4 _ _ A2 hp1x;have G4:=c34 e3 hp3x;refine q ⟨x,p1,p3,p5,ps1,ps3⟩ H6 rfl ((k2.trans k4).trans k6) (fun g hg=>?_) (fr2 (fr4 f5)) ⟨⟨dx,e6⟩,k6 _ _ A4 hp1x,by rw [length_map,length_range];exact l1,fun i hi=>?_,k6 _ _ G4 hp3x,by rw [length_map,length_range];exact l3,nd3,fun i hi=>?_,c56 e5 hp5x,fun z=>?_,fun z=>?_,fun z=>?_,fun z=>?_,fun z=>?_⟩
  ·obtain ⟨i,hi,rfl⟩:=mem_getD (d:=0) hg;have hi:i < ps3.length:=hi;exact fr2 (r3 i (by omega)).2.1
  ·rw [length_map,length_range] at hi;obtain ⟨g1,g2,g3⟩:=r1 i hi;have h2:=c12 g1 (nx g2);have h4:=k4 _ _ h2 (nx g2);refine ⟨k6 _ _ h4 (nx g2),fun z=>?_,fun z=>?_⟩
   ·obtain ⟨j,hj,ej⟩:=mem_getD (d:=0) z;have hj:j < ps3.length:=hj;have:=(r3 j (by omega)).2.1;have ej':ps3.getD j 0=ps1.getD i 0:=ej;rw [ej',h2] at this
    cases this
   ·have z':ps1.getD i 0=p5:=z;rw [z',f5] at h4
    cases h4
  ·rw [length_map,length_range] at hi;obtain ⟨g1,g2,g3⟩:=r3 i hi;exact k6 _ _ (c34 g1 (n2 g2)) (n2 g2)
  ·obtain ⟨j,hj,ej⟩:=mem_getD (d:=0) z;have hj:j < ps3.length:=hj;obtain ⟨g1,g2,g3⟩:=r3 j (by omega);have h4:=c34 g1 (n2 g2);have ej':ps3.getD j 0=p5:=ej;rw [ej',f5] at h4
   cases h4
  ·obtain ⟨j,hj,ej⟩:=mem_getD (d:=0) z;have hj:j < ps3.length:=hj;exact (r3 j (by omega)).2.2 ej
  ·have z':p3=p5:=z;rw [z',f5] at G4
   cases G4
  ·obtain ⟨j,hj,ej⟩:=mem_getD (d:=0) z;have hj:j < ps3.length:=hj;have:=(r3 j (by omega)).2.1;have ej':ps3.getD j 0=p1:=ej;rw [ej',A2] at this
   cases this
  ·have z':p1=p5:=z;rw [z',f5] at A4
   cases A4
theorem znX {K:PySem.W.Frag} {C:Addr} {H:Hp} {Q:VK} {E:XK} {x dx a b:Addr} {hs:List Int} {rs:LI} (h1:H x=some (.ins C dx [])) (h2:SqL K H a (hs.map V.int)) (h3:LL K H b rs) (B:InB hs rs)
  (q:∀ (d:AtAd) H',d.x=x→(∀ c o,H c=some o→c≠x→H' c=some o)→(∀ g∈d.gps,H g=none)→H d.S=none →
   Att C H' d ((List.range hs.length).map fun i:Nat=>zah hs rs (1+(i:Int))) ((List.range hs.length).map fun _=>[]) ((List.range rs.length).map fun i=>(rs.getD i []).getD 1 0)→Q .non H'):zcc K C [.ref x,.ref a,.ref b] H Q E:=⟨rfl,x,dx,a,b,hs,rs,rfl,h1,h2,h3,B,q⟩
def zaV (K:PySem.W.Frag) (C:Addr) (n:Nat):Sp:=fun vs H Q _=>vs.length=3∧∃ (d:AtAd) (p:Int) (D:Addr) (al gv:LI) (lim sp ks:List Int),vs=[.ref d.x,.int p,.ref D]∧Att C H d al gv sp∧H D=some (.dK (kvT ks))∧Vld al gv lim sp 0∧KsOk lim ks∧lim.length≤ks.length+n∧lim.length≤8∧gv.length≤10∧1≤p∧p≤gv.length ∧
 (∀ H' gv' sp',Frm d D H H'→Att C H' d al gv' sp'→Fnd al gv gv' lim sp' ks (p-1).toNat→Q (.bl true) H') ∧
 (∀ H' ls,Frm d D H H'→Att C H' d al gv sp→H' D=some (.dK (kvT ls))→KsOk lim ls→Cls2 al gv sp ks ls→Cov al gv ls (p-1).toNat→Q (.bl false) H')
def zaU (K:PySem.W.Frag) (C:Addr) (n:Nat):Sp:=fun vs H Q _=>vs.length=3∧∃ (d:AtAd) (r:Int) (D:Addr) (al gv:LI) (lim sp ks:List Int),vs=[.ref d.x,.int r,.ref D]∧Att C H d al gv sp∧H D=some (.dK (kvT ks))∧Vld al gv lim sp 0∧KsOk lim ks∧lim.length≤ks.length+n∧lim.length≤8∧gv.length≤10∧r∈ks ∧
 (∀ H' gv' sp',Frm d D H H'→Att C H' d al gv' sp'→Fre al gv gv' lim sp' ks r→Q (.bl true) H') ∧
 (∀ H' ls,Frm d D H H'→Att C H' d al gv sp→H' D=some (.dK (kvT ls))→KsOk lim ls→Cls2 al gv sp ks ls→sp.getD (r-1).toNat 0=0→(∀ q,q < gv.length→r∈gv.getD q []→Cov al gv ls q)→Q (.bl false) H')
def zkn (K:PySem.W.Frag) (C:Addr):Nat→Sp
 | 0=>fun _ _ _ _=>False
 | n+1=>zaU K C n
theorem zhy {K:PySem.W.Frag} {C:Addr} {n:Nat}:zkn K C (n+1)=zaU K C n:=rfl
theorem zlD {K:PySem.W.Frag} {C:Addr} {n:Nat} {H:Hp} {Q:VK} {E:XK} {d:AtAd} {p:Int} {D:Addr} {al gv:LI} {lim sp ks:List Int} (T:Att C H d al gv sp) (hD:H D=some (.dK (kvT ks))) (V:Vld al gv lim sp 0) (k:KsOk lim ks) (hn:lim.length≤ks.length+n) (hm:lim.length≤8) (h10:gv.length≤10) (p1:1≤p) (p2:p≤gv.length)
  (q1:∀ H' gv' sp',Frm d D H H'→Att C H' d al gv' sp'→Fnd al gv gv' lim sp' ks (p-1).toNat→Q (.bl true) H')
  (q2:∀ H' ls,Frm d D H H'→Att C H' d al gv sp→H' D=some (.dK (kvT ls))→KsOk lim ls→Cls2 al gv sp ks ls→Cov al gv ls (p-1).toNat→Q (.bl false) H'):zaV K C n [.ref d.x,.int p,.ref D] H Q E:=⟨rfl,d,p,D,al,gv,lim,sp,ks,rfl,T,hD,V,k,hn,hm,h10,p1,p2,q1,q2⟩
theorem znY {K:PySem.W.Frag} {C:Addr} {n:Nat} {H:Hp} {Q:VK} {E:XK} {d:AtAd} {r:Int} {D:Addr} {al gv:LI} {lim sp ks:List Int} (T:Att C H d al gv sp) (hD:H D=some (.dK (kvT ks))) (V:Vld al gv lim sp 0) (k:KsOk lim ks) (hn:lim.length≤ks.length+n) (hm:lim.length≤8) (h10:gv.length≤10) (hr:r∈ks)
  (q1:∀ H' gv' sp',Frm d D H H'→Att C H' d al gv' sp'→Fre al gv gv' lim sp' ks r→Q (.bl true) H')
  (q2:∀ H' ls,Frm d D H H'→Att C H' d al gv sp→H' D=some (.dK (kvT ls))→KsOk lim ls→Cls2 al gv sp ks ls→sp.getD (r-1).toNat 0=0→(∀ q,q < gv.length→r∈gv.getD q []→Cov al gv ls q)→Q (.bl false) H'):zaU K C n [.ref d.x,.int r,.ref D] H Q E:=⟨rfl,d,r,D,al,gv,lim,sp,ks,rfl,T,hD,V,k,hn,hm,h10,hr,q1,q2⟩
theorem zbu (T:Txt K mg t) (kk d:Nat) (G_Attempt_find_reader:FnOk P w K mg base CX0 kk t.f_Attempt_find_reader t.d_Attempt_find_reader ["self","paper","asked"] (zaV K t.C_Attempt d)):FnOk P w K mg base CX0 (kk+1) t.f_Attempt_free_reading t.d_Attempt_free_reading ["self","reader","asked"] (zaU K t.C_Attempt d):=by
 refine T.F_Attempt_free_reading.ok sc_Attempt_free_reading (fun _ _ _ _ h=>h.1) fun cdv A outer s H vs Q E hr h=>by
  refine ⟨_,(zab (zaS (zap (op_gt) (zas (zaf (K:=K) rfl) (zaG (K:=K) rfl (pv 0)) (zat (op_sub) (pv 1) zad) (fun _ _=>rfl)) zad (zay _))
   (zab (zlI (zaG (K:=K) rfl (pv 0)) (zat (op_sub) (pv 1) zad) (zj2 (K:=K) rfl) zad ip_sub set_list)
   (zae (zak za9))) pss_nil)
   (zab (za2 PassesOwn.never rfl (zb6 (by rfl) T.z_range (zaa zad (zaa (zat (op_addG) (zag (zai (K:=K) rfl) (by rfl) T.z_len (by rfl) (zaa (zaG (K:=K) rfl (pv 0)) pa_nil)) zad) pa_nil))) (zar (i:=3) sc_Attempt_free_reading.nd rfl (Or.inl rfl))
   (zae (zaS (zeF (zap (zeg (K:=K) rfl (zdk hr)) (pv 1) (zas (zaf (K:=K) rfl) (zaG (K:=K) rfl (pv 0)) (zat (op_sub) (pv 3) zad) (fun _ _=>rfl)) (by with_unfolding_all rfl)) (zdu (zaw (K:=K) rfl (zbh (pv 0) T.cl_Attempt T.me_Attempt_find_reader G_Attempt_find_reader (hr.mono (by first | decide | exact Nat.le_refl _)) T.b_Attempt_find_reader .nil zav (zaa (pv 3) (zaa (pv 2) pa_nil))) (fun _=>rfl)))).pt
   (zab (zaK (zbK (K:=K) rfl PySem.F.plainAttrs_list PySem.F.slot_list_remove PySem.F.type_list_remove mt_remove (zas (zaf (K:=K) rfl) (zaG (K:=K) rfl (pv 0)) (zat (op_sub) (pv 3) zad) (fun _ _=>rfl)) (zaa (pv 1) pa_nil)))
   (zae (zak za9))) pss_nil)))
   (zae (zak za9)))),?_⟩
  obtain ⟨_,dd,r,D,al,gv,lim,sp,ks,rfl,A,hD,Vd,hk,hn,hm,h10,hrk,q1,q2⟩:=h;have hcl:=T.cl_Attempt;have hnS:=T.n_Attempt_spare;have hnG:=T.n_Attempt_given;obtain ⟨dx,hob⟩:=A.ob;have fS:=znV dd.A dd.G dd.S;have fG:=zlC dd.A dd.G dd.S;have fM:=zhx dd.A dd.G dd.S (m:="find_reader") (by decide +kernel) (by decide +kernel) (by decide +kernel);obtain ⟨r1,r2⟩:=hk.2 r hrk;have lsp:=Vd.ls;have hS:=A.hs;symm;refine zbk (fun h0=>?_) (fun h0=>?_)
  ·symm;refine znA (SqL.of hS) (by omega) (by omega) ?_;symm;refine zhX hS (by omega) (by rw [length_map];omega) fun H1 b1 e1=>?_;symm;refine q1 H1 gv _ (Frm.but b1 (.inr (.inl rfl))) (A.setSp (sp':=sp.set (r-1).toNat (sp.getD (r-1).toNat 0-1)) b1 ?_) (Vd.taken r1 r2 h0);rw [e1,List.map_set]
  ·have hz:sp.getD (r-1).toNat 0=0:=by have:=Vd.s0 (r-1).toNat (by omega);omega
   have hGl:=A.hg;have lg:=A.lg;symm;refine zeN ⟨by omega,by omega,by omega,by omega⟩ ?_;have en:((dd.gps.length:Int)+1-1).toNat=gv.length:=by omega
   rw [en];refine zb8 (fun i σ H'=>∃ ls v,σ=[some (.ref dd.x),some (.int r),some (.ref D),v]∧Frm dd D H H'∧Att t.C_Attempt H' dd al gv sp∧H' D=some (.dK (kvT ls))∧KsOk lim ls∧Cls2 al gv sp ks ls∧∀ q,q < i→r∈gv.getD q []→Cov al gv ls q) ⟨ks,none,rfl,Frm.refl,A,hD,hk,Cls2.refl,fun q hq=>absurd hq (by omega)⟩ ?_ ?_
   ·rintro i σ H' hi ⟨ls,v,rfl,F',A',hD',hk',C',hc⟩;obtain ⟨dx',hob'⟩:=A'.ob;have hGl':=A'.hg;have hrow:=A'.rg i hi;have ei:(1+(i:Int)-1).toNat=i:=by omega
    have hl':lim.length≤ls.length+d:=by
     have:=List.Nodup.length_le_of_subset hk.1 (fun z hz=>C'.1 z hz:ks ⊆ ls);omega
    symm;rw [ei];symm
    by_cases hin:r∈gv.getD i []
    ·rw [decide_eq_true hin];refine iteT ?_;symm;refine zaO hob' fM ?_;symm;refine zlD A' hD' Vd hk' hl' hm h10 (by omega) (by omega) (fun H2 gv2 sp2 F2 A2 N2=>?_) (fun H2 ls2 F2 A2 hD2 hk2 C2 hc2=>?_)
     ·symm;refine iteT ?_;rw [ei] at N2;obtain ⟨dx2,hob2⟩:=A2.ob;have hGl2:=A2.hg;have lg2:=N2.lg;have hrow2:=A2.rg i (by omega);obtain ⟨hx2,N3⟩:=N2.freed hi hin (C'.1 r hrk);symm;rw [ei];symm;refine zhm hrow2 hx2 fun H3 b3 e3=>?_;symm;refine q1 H3 _ sp2 ((F'.trans F2).trans (Frm.but b3 (.inl (getD_mem (by omega))))) (A2.setRow (by omega) b3 e3) ⟨N3.v,N3.lg,N3.len,fun z hz=>N3.old z (C'.1 z hz),N3.own⟩
     ·symm;refine iteF ?_;symm;rw [ei] at hc2;refine ⟨ls2,_,rfl,F'.trans F2,A2,hD2,hk2,C'.trans C2,fun q hq hqr=>?_⟩
      by_cases e:q=i
      ·subst e;exact hc2
      ·exact (hc q (by omega) hqr).mono C2.1
    ·rw [decide_eq_false hin];refine iteF ?_;symm;refine ⟨ls,_,rfl,F',A',hD',hk',C',fun q hq hqr=>?_⟩
     by_cases e:q=i
     ·subst e;exact absurd hqr hin
     ·exact hc q (by omega) hqr
   ·rintro σ H' ⟨ls,v,rfl,F',A',hD',hk',C',hc⟩;symm;exact q2 H' ls F' A' hD' hk' C' hz hc
theorem zbG (T:Txt K mg t) (kk d:Nat) (G_Attempt_free_reading:FnOk P w K mg base CX0 kk t.f_Attempt_free_reading t.d_Attempt_free_reading ["self","reader","asked"] (zkn K t.C_Attempt d)):FnOk P w K mg base CX0 (kk+1) t.f_Attempt_find_reader t.d_Attempt_find_reader ["self","paper","asked"] (zaV K t.C_Attempt d):=by
 refine T.F_Attempt_find_reader.ok sc_Attempt_find_reader (fun _ _ _ _ h=>h.1) fun cdv A outer s H vs Q E hr h=>by
  refine ⟨_,(zab (za2 PassesOwn.never rfl (zaI (K:=K) rfl (zas (zaf (K:=K) rfl) (zaG (K:=K) rfl (pv 0)) (zat (op_sub) (pv 1) zad) (fun _ _=>rfl))) (zar (i:=3) sc_Attempt_find_reader.nd rfl (Or.inl rfl))
   (zab (zaS (zcv (zlr (zmZ (zdk hr) (pv 3) (pv 2))) (zbX (zap (zeg (K:=K) rfl (zdk hr)) (pv 3) (zas (zaf (K:=K) rfl) (zaG (K:=K) rfl (pv 0)) (zat (op_sub) (pv 1) zad) (fun _ _=>rfl)) (by with_unfolding_all rfl)))).pt
   (zae ps_continue) pss_nil)
   (zab (zjD (zdk hr) (pv 2) (pv 3) za9 rfl)
   (zae (zaS (zaw (K:=K) rfl (zbh (pv 0) T.cl_Attempt T.me_Attempt_free_reading G_Attempt_free_reading (hr.mono (by first | decide | exact Nat.le_refl _)) T.b_Attempt_free_reading .nil zav (zaa (pv 3) (zaa (pv 2) pa_nil))) (fun _=>rfl))
   (zab (zaK (zbK (K:=K) rfl PySem.F.plainAttrs_list PySem.F.slot_list_append PySem.F.type_list_append mt_append (zas (zaf (K:=K) rfl) (zaG (K:=K) rfl (pv 0)) (zat (op_sub) (pv 1) zad) (fun _ _=>rfl)) (zaa (pv 3) pa_nil)))
   (zae (zak za9))) pss_nil)))))
   (zae (zak za9))),?_⟩
  obtain ⟨_,dd,p,D,al,gv,lim,sp,ks,rfl,A,hD,Vd,hk,hn,hm,h10,p1,p2,q1,q2⟩:=h;have hcl:=T.cl_Attempt;have hnA:=T.n_Attempt_allowed;have hnG:=T.n_Attempt_given;obtain ⟨dx,hob⟩:=A.ob;have fA:=znW dd.A dd.G dd.S;have fG:=zlC dd.A dd.G dd.S;have fM:=zhx dd.A dd.G dd.S (m:="free_reading") (by decide +kernel) (by decide +kernel) (by decide +kernel);have lga:=Vd.lg;have lg:=A.lg;have la:=A.la;have hA:=A.ha;have hpl:(p-1).toNat < gv.length:=by omega
  symm;generalize ep:(p-1).toNat=pn at *;obtain ⟨hrow,hnm1,hnm2⟩:=A.ra pn (by omega);refine zaT (SqL.of hrow) ?_;refine zbL (xs:=(al.getD pn []).map V.int) (fun i σ H'=>∃ ls v,σ=[some (.ref dd.x),some (.int p),some (.ref D),v]∧Frm dd D H H'∧Att t.C_Attempt H' dd al gv sp∧H' D=some (.dK (kvT ls))∧KsOk lim ls∧Cls2 al gv sp ks ls∧∀ j,j < i→(al.getD pn []).getD j 0∈ls∨(al.getD pn []).getD j 0∈gv.getD pn []) ⟨ks,none,rfl,Frm.refl,A,hD,hk,Cls2.refl,fun q hq=>absurd hq (by omega)⟩ ?_ ?_ ?_
  ·rintro i σ H' _ ⟨ls,v,rfl,F',A',_⟩;exact SqL.of (A'.ra pn (by omega)).1
  ·rintro i x σ H' hx ⟨ls,v,rfl,F',A',hD',hk',C',hc⟩;obtain ⟨hi,rfl⟩:=zcq hx;have hxm:(al.getD pn []).getD i 0∈al.getD pn []:=getD_mem hi;generalize hxe:(al.getD pn []).getD i 0=x at *;obtain ⟨dx',hob'⟩:=A'.ob;have hG':=A'.hg;have hgr:=A'.rg pn hpl;have hxr:=Vd.ar pn (by omega) x hxm;symm;refine zk7 hD' ?_;symm;have done:∀ ls2,Cls2 al gv sp ls ls2→(x∈ls2∨x∈gv.getD pn [])→∀ j,j < i+1→(al.getD pn []).getD j 0∈ls2∨(al.getD pn []).getD j 0∈gv.getD pn []:=fun ls2 C2 h j hj=>by
    by_cases e:j=i
    ·subst e;rw [hxe];exact h
    ·exact (hc j (by omega)).elim (fun z=>.inl (C2.1 _ z)) .inr
   by_cases h1:x∈ls
   ·rw [decide_eq_true h1];refine iteT ?_;walk_at "rdk";exact ⟨ls,_,rfl,F',A',hD',hk',C',done ls Cls2.refl (.inl h1)⟩
   rw [decide_eq_false h1];refine iteF ?_;symm;rw [ep];symm
   by_cases h2:x∈gv.getD pn []
   ·rw [decide_eq_true h2];refine iteT ?_;symm;exact ⟨ls,_,rfl,F',A',hD',hk',C',done ls Cls2.refl (.inr h2)⟩
   rw [decide_eq_false h2];refine iteF ?_;have hk1:=hk'.push h1 hxr;have hl1:=znU hk1.1 hk1.2;rw [length_append,length_singleton] at hl1;have hsub:=List.Nodup.length_le_of_subset hk.1 (fun z hz=>C'.1 z hz:ks ⊆ ls);symm;refine zj5 hD' (by omega) h1 fun H1 b1 e1=>?_;have A1:=A'.keep hD' b1;obtain ⟨dx1,hob1⟩:=A1.ob;symm;refine zaO hob1 fM ?_;symm;obtain ⟨d',rfl⟩:∃ d',d=d'+1:=⟨d-1,by omega⟩
   rw [zhy];refine znY (n:=d') (r:=x) A1 e1 Vd hk1 (by rw [length_append,length_singleton];omega) hm h10 (by simp) (fun H2 gv2 sp2 F2 A2 N2=>?_) (fun H2 ls2 F2 A2 hD2 hk2 C2 hz2 hc2=>?_)
   ·symm;refine iteT ?_;obtain ⟨dx2,hob2⟩:=A2.ob;have hG2:=A2.hg;have lg2:=N2.lg;have hrow2:=A2.rg pn (by omega);have N3:=N2.found hpl hxm h2 h1;have hlen:(gv2.getD pn []).length≤8:=by
     have:=znU (N2.v.nd pn (by omega)) fun r hr=>N2.v.ar pn (by omega) r (N2.v.sub pn (by omega) r hr);omega
    symm;rw [ep];symm;refine zaM hrow2 (by rw [length_map];omega) fun H3 b3 e3=>?_;symm;refine q1 H3 _ sp2 (((F'.trans (Frm.but b1 (.inr (.inr rfl)))).trans F2).trans (Frm.but b3 (.inl (getD_mem (by omega))))) (A2.setRow (row:=gv2.getD pn []++[x]) (by omega) b3 (by rw [e3,map_append];rfl)) ⟨N3.v,N3.lg,N3.len,fun z hz=>N3.old z (C'.1 z hz)⟩
   ·symm;refine iteF ?_;symm;have C3:=C2.one hz2 hc2;exact ⟨ls2,_,rfl,(F'.trans (Frm.but b1 (.inr (.inr rfl)))).trans F2,A2,hD2,hk2,C'.trans C3,done ls2 C3 (.inl (C2.1 x (by simp)))⟩
  ·rintro σ H' ⟨ls,v,rfl,F',A',hD',hk',C',hc⟩;symm;refine q2 H' ls F' A' hD' hk' C' fun r hr=>?_;obtain ⟨j,hj,rfl⟩:=mem_getD (d:=0) hr;exact hc j (by rw [length_map];exact hj)
theorem zko (T:Txt K mg t):∀ n:Nat,FnOk P w K mg base CX0 (2 * n+1) t.f_Attempt_find_reader t.d_Attempt_find_reader ["self","paper","asked"] (zaV K t.C_Attempt n)∧FnOk P w K mg base CX0 (2 * n+2) t.f_Attempt_free_reading t.d_Attempt_free_reading ["self","reader","asked"] (zaU K t.C_Attempt n)
 | 0=>by
   have G0:FnOk P w K mg base CX0 0 t.f_Attempt_free_reading t.d_Attempt_free_reading ["self","reader","asked"] (zkn K t.C_Attempt 0):=⟨fun _ _ _ _ z=>z.elim,fun _ _ _ _ _ _ _ _ _ _ _ _ _ z=>z.elim⟩
   have G1:=zbG T 0 0 G0;exact ⟨G1,zbu T 1 0 G1⟩
 | n+1=>by
   have G0:=(zko T n).2;have G1:=zbG T (2 * n+2) (n+1) G0;exact ⟨G1,zbu T (2 * n+3) (n+1) G1⟩
theorem zcU (T:Txt K mg t):FnOk P w K mg base CX0 17 t.f_Attempt_find_reader t.d_Attempt_find_reader ["self","paper","asked"] (zaV K t.C_Attempt 8):=(zko T 8).1
theorem zik {hs:List Int} {rs:LI} {q r:Nat} (hr:r < rs.length):((r:Int)+1∈zah hs rs (1+(q:Int)))↔zbq hs rs q r=true:=by
 unfold zah;have e:(1+(q:Int)-1).toNat=q:=by omega
 constructor
 ·intro h;obtain ⟨i,hi,ei⟩:=mem_map.mp h;have:i=r:=by omega
  subst this;have:=(mem_filter.mp hi).2;unfold mayB at this;rw [e] at this;exact this
 ·intro h;refine mem_map.mpr ⟨r,mem_filter.mpr ⟨mem_range.mpr hr,?_⟩,by omega⟩;unfold mayB;rw [e];exact h
theorem zlE {hs:List Int} {rs:LI} {k x:Int} (h:x∈zah hs rs k):1≤x∧x≤rs.length:=by
 unfold zah at h;obtain ⟨i,hi,rfl⟩:=mem_map.mp h;have:=mem_range.mp (mem_filter.mp hi).1;omega
theorem cnt_nil (n:Nat) (x:Int):cntB ((List.range n).map fun _=>([]:List Int)) x=0:=by
 unfold cntB;rw [List.length_eq_zero_iff,List.filter_eq_nil_iff];intro a ha;obtain ⟨_,_,rfl⟩:=mem_map.mp ha;simp
theorem zkp {hs:List Int} {rs:LI} (B:InB hs rs):Vld ((List.range hs.length).map fun i:Nat=>zah hs rs (1+(i:Int))) ((List.range hs.length).map fun _=>[]) ((List.range rs.length).map fun i=>(rs.getD i []).getD 1 0) ((List.range rs.length).map fun i=>(rs.getD i []).getD 1 0) 0:=by
 refine ⟨by simp,rfl,fun q hq=>?_,fun q hq r hr=>?_,fun q hq r hr=>?_,fun r hr=>?_,fun r hr=>?_⟩
 ·rw [length_map,length_range] at hq;rw [zaD hq];exact nodup_nil
 ·rw [length_map,length_range] at hq;rw [zaD hq] at hr
  cases hr
 ·rw [length_map,length_range] at hq;rw [zaD hq] at hr;rw [length_map,length_range];exact zlE hr
 ·rw [length_map,length_range] at hr;rw [zaD hr];exact (B.rl r hr).1
 ·rw [length_map,length_range] at hr;rw [zaD hr,cnt_nil,if_neg (by omega)];simp
def zcm (K:PySem.W.Frag):Sp:=fun vs H Q _=>vs.length=2∧∃ (a b:Addr) (hs:List Int) (rs:LI),vs=[.ref a,.ref b]∧SqL K H a (hs.map V.int)∧LL K H b rs∧InB hs rs∧((∃ rows,zaW hs rs rows=true)→∀ H',Same H H'→Q (.bl true) H')∧((∀ rows,zaW hs rs rows=false)→∀ H',Same H H'→Q (.bl false) H')
theorem zdT (T:Txt K mg t):FnOk P w K mg base CX0 18 t.f_3 t.d_3 ["papers","readers"] (zcm K):=by
 have G_Attempt___init__:=zdA (P:=P) (w:=w) (base:=base) T;have G_Attempt_find_reader:=zcU (P:=P) (w:=w) (base:=base) T;refine T.F_3.ok sc_3 (fun _ _ _ _ h=>h.1) fun cdv A outer s H vs Q E hr h=>by
  refine ⟨_,(zab (zax (i:=2) sc_3.nd rfl (Or.inl rfl) (zlS T.mk_Attempt G_Attempt___init__ (hr.mono (by decide)) (by rfl) T.mg_Attempt T.b_Attempt___init__ .nil zav (zaa (pv 0) (zaa (pv 1) pa_nil))))
   (zab (za2 PassesOwn.never rfl (zb6 (by rfl) T.z_range (zaa zad (zaa (zat (op_addG) (zag (zai (K:=K) rfl) (by rfl) T.z_len (by rfl) (zaa (pv 0) pa_nil)) zad) pa_nil))) (zar (i:=3) sc_3.nd rfl (Or.inl rfl))
   (zae (za2 PassesOwn.never rfl (zaX (by rfl) T.z_range (zaa (zcW (v:=.int 2) (by rfl) T.v_READERS_EACH T.w_READERS_EACH) pa_nil)) (zar (i:=4) sc_3.nd rfl (Or.inl rfl))
   (zae (zaS (zbd (zaw (K:=K) rfl (zbh (pv 2) T.cl_Attempt T.me_Attempt_find_reader G_Attempt_find_reader (hr.mono (by first | decide | exact Nat.le_refl _)) T.b_Attempt_find_reader .nil zav (zaa (pv 3) (zaa pe_dnewK pa_nil))) (fun _=>rfl)))
   (zae (zak za9)) pss_nil)))))
   (zae (zak za9)))),?_⟩
  obtain ⟨_,a,b,hs,rs,rfl,ha,L,B,q1,q2⟩:=h;have B1:=B.lp;have B2:=B.lr;have h0:∀ i,i < rs.length→0≤(rs.getD i []).getD 1 0:=fun i hi=>(B.rl i hi).1;symm;refine zgC fun x dx H1 fx fdx ne s1 ex=>?_;refine znX ex (s1.seq ha) (L.same s1) B fun d H2 hdx k2 fg fS A2=>⟨rfl,?_⟩
  have V0:=zkp B;have hal:∀ q,q < hs.length→((List.range hs.length).map fun i:Nat=>zah hs rs (1+(i:Int))).getD q []=zah hs rs (1+(q:Int)):=fun q hq=>zaD hq;have hgl:∀ q,q < hs.length→(((List.range hs.length).map fun _=>([]:List Int)).getD q []).length=0:=fun q hq=>by rw [zaD hq];rfl
  have hll:((List.range rs.length).map fun i=>(rs.getD i []).getD 1 0).length=rs.length:=by rw [length_map,length_range]
  have hlg:∀ r,r < rs.length→((List.range rs.length).map fun i=>(rs.getD i []).getD 1 0).getD r 0=(rs.getD r []).getD 1 0:=fun r hr=>zaD hr;have hla:((List.range hs.length).map fun i:Nat=>zah hs rs (1+(i:Int))).length=hs.length:=by rw [length_map,length_range]
  generalize (List.range hs.length).map (fun i:Nat=>zah hs rs (1+(i:Int)))=al at *;generalize eg0:(List.range hs.length).map (fun _=>([]:List Int))=gv0 at *;have hlg0:gv0.length=hs.length:=by rw [← eg0,length_map,length_range]
  generalize (List.range rs.length).map (fun i=>(rs.getD i []).getD 1 0)=lim at *;have S2:Same H H2:=fun c o e=>k2 c o (s1 c o e) (fun z=>by rw [z,fx] at e;cases e);have fg':∀ g∈d.gps,H g=none:=fun g hg=>s1.free (fg g hg);have fS':H d.S=none:=s1.free fS;have frame:∀ {D:Addr} {H3 H4:Hp},Same H H3→H D=none→Frm d D H3 H4→Same H H4:=fun {D H3 H4} s f F c o e=>F c o (s c o e) (fun z=>by rw [fg' c z] at e;cases e) (fun z=>by rw [z,fS'] at e;cases e) (fun z=>by rw [z,f] at e;cases e);have ha2:=S2.seq ha;have hcl:=T.cl_Attempt;have fM:=zhx d.A d.G d.S (m:="find_reader") (by decide +kernel) (by decide +kernel) (by decide +kernel);subst hdx;symm;refine zeN ⟨by omega,by omega,by omega,by omega⟩ ?_;have en:((hs.length:Int)+1-1).toNat=hs.length:=by omega
  rw [en];refine zb8 (fun i σ H'=>∃ gv sp v w,σ=[some (.ref a),some (.ref b),some (.ref d.x),v,w]∧Same H H'∧Att t.C_Attempt H' d al gv sp∧Vld al gv lim sp 0∧∀ q,q < hs.length→(gv.getD q []).length=if q < i then 2 else 0) ⟨gv0,lim,none,none,rfl,S2,A2,V0,fun q hq=>by rw [hgl q hq,if_neg (by omega)]⟩ ?_ ?_
  ·rintro i σ H' hi ⟨gv,sp,v,w',rfl,S',A',V',hlen⟩;symm;refine zb3 (by decide) (by decide) ?_;refine zb8 (fun j σ H'=>∃ gv sp w,σ=[some (.ref a),some (.ref b),some (.ref d.x),some (.int (1+(i:Int))),w]∧Same H H'∧Att t.C_Attempt H' d al gv sp∧Vld al gv lim sp 0∧∀ q,q < hs.length→(gv.getD q []).length=if q < i then 2 else if q=i then j else 0) ⟨gv,sp,w',rfl,S',A',V',fun q hq=>by
    rw [hlen q hq]
    by_cases e:q < i
    ·rw [if_pos e,if_pos e]
    ·rw [if_neg e,if_neg e];split <;> rfl⟩ ?_ ?_
   ·rintro j σ H3 hj ⟨gv3,sp3,w3,rfl,S3,A3,V3,hlen3⟩;have hj:j < 2:=hj;obtain ⟨dx3,hob3⟩:=A3.ob;have lg3:=V3.lg;symm;refine zaO hob3 fM ?_;symm;refine zgD fun D H4 f4 s4 e4=>?_;symm;have ei:(1+(i:Int)-1).toNat=i:=by omega
    refine zlD (n:=8) (A3.same s4) e4 V3 ⟨nodup_nil,fun k hk=>by cases hk⟩ (by rw [length_nil];omega) (by omega) (by omega) (by omega) (by omega) (fun H5 gv5 sp5 F5 A5 N5=>?_) (fun H5 ls F5 A5 hD5 hk5 C5 hc5=>?_)
    ·rw [ei] at N5;symm;refine iteF ?_;symm;refine ⟨gv5,sp5,_,rfl,frame (S3.trans s4) (S3.free f4) F5,A5,N5.v,fun q hq=>?_⟩;rw [N5.len q (by omega),hlen3 q hq]
     by_cases e1:q < i
     ·rw [if_pos e1,if_pos e1,if_neg (by omega)]
     ·rw [if_neg e1,if_neg e1]
      by_cases e2:q=i
      ·rw [if_pos e2,if_pos e2,if_pos e2]
      ·rw [if_neg e2,if_neg e2,if_neg e2]
    ·rw [ei] at hc5;symm;refine iteT ?_;symm;refine q2 ?_ _ (frame (S3.trans s4) (S3.free f4) F5);refine zj1 (p:=i) h0 V3 hla hll hlg (fun q hq r hr hallow=>by rw [hal q hq];exact (zik hr).mpr hallow) (fun q hq=>?_) hi ?_ C5 hc5
     ·rw [hlen3 q hq];split
      ·omega
      ·split <;> omega
     ·rw [hlen3 i hi,if_neg (by omega),if_pos rfl];exact hj
   ·rintro σ H3 ⟨gv3,sp3,w3,rfl,S3,A3,V3,hlen3⟩;refine ⟨gv3,sp3,_,_,rfl,S3,A3,V3,fun q hq=>?_⟩;rw [hlen3 q hq]
    by_cases e1:q < i
    ·rw [if_pos e1,if_pos (by omega)]
    ·rw [if_neg e1]
     by_cases e2:q=i
     ·rw [if_pos e2,if_pos (by omega)];rfl
     ·rw [if_neg e2,if_neg (by omega)]
  ·rintro σ H' ⟨gv,sp,v,w',rfl,S',A',V',hlen⟩;symm;refine q1 ?_ _ S';refine zk4 h0 V' hla hll hlg (fun q hq r hr hm=>by rw [hal q hq] at hm;exact (zik hr).mp hm) fun q hq=>?_;rw [hlen q hq,if_pos hq]
theorem zd9 {H:Hp} {Q:VK} {E:XK} {a b:Addr} {hs:List Int} {rs:LI} (h2:SqL K H a (hs.map V.int)) (h3:LL K H b rs) (B:InB hs rs) (q1:(∃ rows,zaW hs rs rows=true)→∀ H',Same H H'→Q (.bl true) H') (q2:(∀ rows,zaW hs rs rows=false)→∀ H',Same H H'→Q (.bl false) H'):zcm K [.ref a,.ref b] H Q E:=⟨rfl,a,b,hs,rs,rfl,h2,h3,B,q1,q2⟩
def zdr (K:PySem.W.Frag):Sp:=fun vs H Q _=>vs.length=2∧∃ (a b:Addr) (rs:LI) (ls:List Int),vs=[.ref a,.ref b]∧LL K H a rs∧SqL K H b (ls.map V.int)∧ls.length=rs.length∧rs.length≤8∧(∀ i,i < rs.length→(rs.getD i []).length=2)∧∀ p H',RowsAt H p (zgE rs ls) H'→Q (.ref p) H'
theorem zfp (T:Txt K mg t):FnOk P w K mg base CX0 1 t.f_14 t.d_14 ["readers","limits"] (zdr K):=by
 refine T.F_14.ok sc_14 (fun _ _ _ _ h=>h.1) fun cdv A outer s H vs Q E hr h=>by
  refine ⟨_,(zae (zak (zba (zaq (sc:=zac s_14) (XN:=["readers","limits"]) (N:=["row","limit"]) (own:=2) (js:=[]) rfl rfl (by decide +kernel)) rfl (zjI (K:=K) rfl (by rfl) T.z_zip (zaa (pv 0) (zaa (pv 1) pa_nil))) (fun _ _ _ _ _=>(zfT (K:=K) (n:=2) rfl rfl (zcg (zar (i:=0) (show List.Nodup [(Str.ofString "row"),(Str.ofString "limit")] by decide +kernel) rfl (Or.inl rfl)) (zcg (zar (i:=1) (show List.Nodup [(Str.ofString "row"),(Str.ofString "limit")] by decide +kernel) rfl (Or.inl rfl)) pgs_nil)))) (fun _ _ _ _ _=>zbl) (fun _ _ _ _ _=>(zaN (zaa (zas (zaf (K:=K) rfl) (pv 0) zad (fun _ _=>rfl)) (zaa (pv 1) pa_nil))))))),?_⟩;obtain ⟨_,a,b,rs,ls,rfl,L,hb,hl,h8,r2,q⟩:=h;obtain ⟨ps,ha,hpl,hpr⟩:=id L;have en:(ps.map V.ref).length=rs.length:=by rw [length_map];exact hpl
  have em:(ls.map V.int).length=ls.length:=length_map ..;symm;refine zjJ ha hb ?_;refine zca (zcr.zip ha hb (by omega)) (by omega) (fun i=>[(rs.getD i []).getD 0 0,ls.getD i 0]) (fun i H' Q' hi s q'=>?_) fun p H' R=>?_
  ·have hi':i < rs.length:=by omega
   have ex:(ps.map V.ref).getD i .non=.ref (ps.getD i 0):=by
    rw [getD_eq_getElem?_getD,getElem?_map,getElem?_eq_getElem (by omega),getD_eq_getElem?_getD,getElem?_eq_getElem (by omega)];rfl
   have ey:(ls.map V.int).getD i .non=.int (ls.getD i 0):=by
    rw [getD_eq_getElem?_getD,getElem?_map,getElem?_eq_getElem (by omega),getD_eq_getElem?_getD,getElem?_eq_getElem (by omega)];rfl
   rw [ex,ey];have h2:=r2 i hi';have hrow:=s _ _ (hpr i hi');show (_:TE) (some (.ref (ps.getD i 0))::some (.int (ls.getD i 0))::_) _ _;symm;exact zau (by simp) q'
  rw [en] at R;exact q p H' R
theorem zf9 {H:Hp} {Q:VK} {E:XK} {a b:Addr} {rs:LI} {ls:List Int} (h:LL K H a rs) (hb:SqL K H b (ls.map V.int)) (hl:ls.length=rs.length) (h8:rs.length≤8) (r2:∀ i,i < rs.length→(rs.getD i []).length=2) (q:∀ p H',RowsAt H p (zgE rs ls) H'→Q (.ref p) H'):zdr K [.ref a,.ref b] H Q E:=⟨rfl,a,b,rs,ls,rfl,h,hb,hl,h8,r2,q⟩
def zei (K:PySem.W.Frag):Sp:=fun vs H Q _=>vs.length=3∧∃ (a b c:Addr) (hs:List Int) (rs rows:LI),vs=[.ref a,.ref b,.ref c]∧SqL K H a (hs.map V.int)∧LL K H b rs∧LL K H c rows∧InB hs rs∧zcs hs rs rows∧(Ext hs rs rows→∀ H',Same H H'→Q (.bl true) H')∧(¬Ext hs rs rows→∀ H',Same H H'→Q (.bl false) H')
theorem zgO (T:Txt K mg t):FnOk P w K mg base CX0 19 t.f_13 t.d_13 ["papers","readers","rows"] (zei K):=by
 have G_7:=zdS (P:=P) (w:=w) (base:=base) T;have G_3:=zdT (P:=P) (w:=w) (base:=base) T;have G_14:=zfp (P:=P) (w:=w) (base:=base) T;have G_8:=zcL (P:=P) (w:=w) (base:=base) T;refine T.F_13.ok sc_13 (fun _ _ _ _ h=>h.1) fun cdv A outer s H vs Q E hr h=>by
  refine ⟨_,(zab (zaS (zbd (zaw (K:=K) rfl (zal G_7 (hr.mono (by decide)) (by rfl) T.m_7 T.F_7.kp T.b_7 .nil zav (zaa (pv 1) (zaa (pv 2) pa_nil))) (fun _=>rfl)))
   (zae (zak za9)) pss_nil)
   (zae (zak (zal G_3 (hr.mono (by decide)) (by rfl) T.m_3 T.F_3.kp T.b_3 .nil zav (zaa (zdH (zdL (K:=K) rfl) (pv 0) (zeI (zag (zai (K:=K) rfl) (by rfl) T.z_len (by rfl) (zaa (pv 2) pa_nil))) po_none) (zaa (zal G_14 (hr.mono (by decide)) (by rfl) T.m_14 T.F_14.kp T.b_14 .nil zav (zaa (pv 1) (zaa (zal G_8 (hr.mono (by decide)) (by rfl) T.m_8 T.F_8.kp T.b_8 .nil zav (zaa (pv 1) (zaa (pv 2) pa_nil))) pa_nil))) pa_nil)))))),?_⟩
  obtain ⟨_,a,b,c,hs,rs,rows,rfl,ha,L,L3,B,P,q1,q2⟩:=h;have B1:=B.lp;have B2:=B.lr;have pl:=P.1;have hg:=znC P;symm;refine zd8 L L3 B2 (by omega) B.r2 fun H1 s1=>?_;symm
  cases ek:zhw rs rows with
  | false =>
    refine iteT ?_;symm;refine q2 (fun z=>?_) _ s1;have:=zgN.mpr (hg.mp z).1;rw [ek] at this
    cases this
  | true =>
    have hk:=zgN.mp ek;refine iteF ?_;obtain ⟨ps3,hc3,hl3,hr3⟩:=id (L3.same s1);symm;refine zcx (s1.seq ha) fun p2 H2 f2 s2 e2=>?_;have el:(ps3.length:Int)=((rows.length:Nat):Int):=by omega
    rw [el,zgw,← map_drop] at e2;have s12:=s1.trans s2;symm;refine zcM (L.same s12) (L3.same s12) B2 (by omega) B.r2 fun p4 H4 f4 s4 e4=>?_;have s14:=s12.trans s4;have hll:(za1 rs rows).length=rs.length:=by unfold za1;rw [length_map,length_range]
    symm;refine zf9 (L.same s14) (SqL.of e4) hll B2 B.r2 fun p5 H5 R5=>?_;have s15:=s14.trans R5.same;symm;refine zd9 (SqL.of (R5.same _ _ (s4 _ _ e2))) R5.ll (znD B hk rows.length) (fun h H6 s6=>q1 (hg.mpr ⟨hk,h⟩) _ (s15.trans s6)) (fun h H6 s6=>q2 (fun z=>?_) _ (s15.trans s6));obtain ⟨_,more,hm⟩:=hg.mp z;rw [h more] at hm
    cases hm
theorem zhz {H:Hp} {Q:VK} {E:XK} {a b c:Addr} {hs:List Int} {rs rows:LI} (h1:SqL K H a (hs.map V.int)) (h2:LL K H b rs) (h3:LL K H c rows) (B:InB hs rs) (P:zcs hs rs rows) (q1:Ext hs rs rows→∀ H',Same H H'→Q (.bl true) H') (q2:¬Ext hs rs rows→∀ H',Same H H'→Q (.bl false) H'):zei K [.ref a,.ref b,.ref c] H Q E:=⟨rfl,a,b,c,hs,rs,rows,rfl,h1,h2,h3,B,P,q1,q2⟩
theorem znZ (hs:List Int) (rs:LI) (k:Int):(zah hs rs k).Pairwise (· < ·):=by
 unfold zah;rw [pairwise_map];exact (List.pairwise_lt_range.filter _).imp fun h=>by omega
theorem zn0 (hs:List Int) (rs:LI) (k:Int):(zah hs rs k).length≤rs.length:=by
 unfold zah;rw [length_map];exact Nat.le_trans (length_filter_le _ _) (by simp)
theorem zlo {hs:List Int} {rs:LI} {k:Nat} {x:Int}:x∈zah hs rs ((k:Int)+1)↔1≤x∧x≤rs.length∧(rs.getD (x-1).toNat []).getD 0 0≠hs.getD k 0:=by
 have ek:(k:Int)+1=1+(k:Int):=Int.add_comm ..;rw [ek];constructor
 ·intro h;have hr:=zlE h;refine ⟨hr.1,hr.2,?_⟩;have e:x=(((x-1).toNat:Nat):Int)+1:=by omega
  rw [e,zik (by omega)] at h;unfold zbq at h;simpa using h
 ·rintro ⟨h1,h2,h3⟩;have e:x=(((x-1).toNat:Nat):Int)+1:=by omega
  rw [e,zik (by omega)];unfold zbq;rw [decide_eq_false h3];rfl
theorem zeD {hs:List Int} {rs:LI} {k:Nat} {row:List Int}:row∈prsB (zah hs rs ((k:Int)+1))↔zcy rs (hs.getD k 0) row=true:=by
 rw [prs_mem (znZ ..),zb9];constructor
 ·rintro ⟨x,y,rfl,hx,hy,hlt⟩;obtain ⟨x1,x2,x3⟩:=zlo.mp hx;obtain ⟨y1,y2,y3⟩:=zlo.mp hy;exact ⟨rfl,x1,hlt,y2,x3,y3⟩
 ·rintro ⟨h1,h2,h3,h4,h5,h6⟩;exact ⟨row.getD 0 0,row.getD 1 0,len2 h1,zlo.mpr ⟨h2,by omega,h5⟩,zlo.mpr ⟨by omega,h4,h6⟩,h3⟩
theorem zfI {hs:List Int} {rs rows:LI} {row:List Int} (P:zcs hs rs rows) (hl:rows.length < hs.length) (h:zcy rs (hs.getD rows.length 0) row=true):zcs hs rs (rows++[row]):=by
 refine ⟨by rw [length_append,length_singleton];omega,fun k hk=>?_⟩;rw [length_append,length_singleton] at hk
 by_cases e:k < rows.length
 ·rw [zaB e];exact P.2 k e
 ·have:k=rows.length:=by omega
  subst this;rw [zaC];exact h
theorem zil {hs:List Int} {rs rows more:LI} (hl:rows.length < hs.length) (h:zaW hs rs (rows++more)=true):∃ r rest,more=r::rest∧zcy rs (hs.getD rows.length 0) r=true∧Ext hs rs (rows++[r]):=by
 obtain ⟨h1,h2,_⟩:=zbr.mp h
 match more with
 | []=>rw [append_nil] at h1;omega
 | r::rest =>
   refine ⟨r,rest,rfl,?_,rest,by rw [append_assoc];exact h⟩;have:=h2 rows.length hl;rw [zcF (Nat.le_refl _),Nat.sub_self] at this;exact this
theorem ziY {hs:List Int} {rs rows:LI} (hl:rows.length < hs.length) (h:∀ r∈prsB (zah hs rs ((rows.length:Int)+1)),¬Ext hs rs (rows++[r])):¬Ext hs rs rows:=by
 rintro ⟨more,hm⟩;obtain ⟨r,rest,_,hp,hx⟩:=zil hl hm;exact h r (zeD.mpr hp) hx
theorem ziZ {hs:List Int} {rs rows:LI} {i:Nat} (P:zcs hs rs rows) (hl:rows.length < hs.length) (hi:i < (prsB (zah hs rs ((rows.length:Int)+1))).length)
  (h0:∀ j,j < i→¬Ext hs rs (rows++[(prsB (zah hs rs ((rows.length:Int)+1))).getD j []])) (hn:∀ full,zaW hs rs full=true→nbB rows full=true):∀ full,zaW hs rs full=true→nbB (rows++[(prsB (zah hs rs ((rows.length:Int)+1))).getD i []]) full=true:=by
 intro full hf;refine zh5 (hn full hf) fun he hlt=>?_;obtain ⟨f1,f2,_⟩:=zbr.mp hf;have ef:full=rows++full.drop rows.length:=by
  have e1:rows=full.take rows.length:=by
   refine zgv (by rw [length_take];omega) fun j hj=>?_;rw [zeR hj];obtain ⟨e0,e1⟩:=he j hj;have p1:=(zb9.mp (P.2 j hj)).1;have p2:=(zb9.mp (f2 j (by omega))).1;exact znE p1 p2 e0 e1
  conv=>rhs;arg 1;rw [e1]
  exact (List.take_append_drop _ _).symm
 rw [ef] at hf;obtain ⟨r,rest,er,hp,hx⟩:=zil hl hf;have eg:full.getD rows.length []=r:=by
  rw [ef,zcF (Nat.le_refl _),Nat.sub_self,er];rfl
 rw [eg];obtain ⟨j,hj,ej⟩:=mem_getD (d:=[]) (zeD.mpr hp);have hij:¬j < i:=fun z=>h0 j z (by rw [ej];exact hx)
 by_cases e:j=i
 ·subst e;rw [ej];exact .inr ⟨rfl,Int.le_refl _⟩
 ·have:=List.pairwise_iff_getElem.mp (prs_ord (znZ hs rs ((rows.length:Int)+1))) i j hi hj (by omega);rw [← ej,getD_eq_getElem?_getD,getElem?_eq_getElem hi,getD_eq_getElem?_getD,getElem?_eq_getElem hj];exact this
def zcd (K:PySem.W.Frag):Sp:=fun vs H Q _=>vs.length=3∧∃ (a b c:Addr) (hs:List Int) (rs rows:LI) (ps:List Addr),vs=[.ref a,.ref b,.ref c]∧SqL K H a (hs.map V.int)∧LL K H b rs∧H c=some (.lst (ps.map V.ref))∧ps.length=rows.length∧(∀ i,i < rows.length→H (ps.getD i 0)=some (.lst ((rows.getD i []).map V.int)))∧InB hs rs∧zcs hs rs rows∧rows.length < hs.length ∧
 ((∀ r∈prsB (zah hs rs ((rows.length:Int)+1)),¬Ext hs rs (rows++[r]))→∀ H',Same H H'→Q .non H') ∧
 ∀ i,i < (prsB (zah hs rs ((rows.length:Int)+1))).length→Ext hs rs (rows++[(prsB (zah hs rs ((rows.length:Int)+1))).getD i []])→(∀ j,j < i→¬Ext hs rs (rows++[(prsB (zah hs rs ((rows.length:Int)+1))).getD j []])) →
  ∀ p H',H p=none→Same H H'→H' p=some (.lst (((prsB (zah hs rs ((rows.length:Int)+1))).getD i []).map V.int))→Q (.ref p) H'
theorem zdB (T:Txt K mg t):FnOk P w K mg base CX0 20 t.f_11 t.d_11 ["papers","readers","rows"] (zcd K):=by
 have G_12:=zht (P:=P) (w:=w) (base:=base) T;have G_2:=zcu (P:=P) (w:=w) (base:=base) T;have G_13:=zgO (P:=P) (w:=w) (base:=base) T;refine T.F_11.ok sc_11 (fun _ _ _ _ h=>h.1) fun cdv A outer s H vs Q E hr h=>by
  refine ⟨_,(zab (zax (i:=3) sc_11.nd rfl (Or.inl rfl) (zat (op_addG) (zag (zai (K:=K) rfl) (by rfl) T.z_len (by rfl) (zaa (pv 2) pa_nil)) zad))
   (zab (za2 PassesOwn.never rfl (zaI (K:=K) rfl (zal G_12 (hr.mono (by decide)) (by rfl) T.m_12 T.F_12.kp T.b_12 .nil zav (zaa (zal G_2 (hr.mono (by decide)) (by rfl) T.m_2 T.F_2.kp T.b_2 .nil zav (zaa (pv 0) (zaa (pv 1) (zaa (pv 3) pa_nil)))) pa_nil))) (zar (i:=4) sc_11.nd rfl (Or.inl rfl))
   (zae (zaS (zaw (K:=K) rfl (zal G_13 (hr.mono (by decide)) (by rfl) T.m_13 T.F_13.kp T.b_13 .nil zav (zaa (pv 0) (zaa (pv 1) (zaa (zat (op_addG) (pv 2) (zaN (zaa (pv 4) pa_nil))) pa_nil)))) (fun _=>rfl))
   (zae (zak (pv 4))) pss_nil)))
   (zae (zak zbW)))),?_⟩
  obtain ⟨_,a,b,c,hs,rs,rows,ps,rfl,ha,L,hc,hpl,hpr,B,P,hl,q0,q1⟩:=h;have B1:=B.lp;have B2:=B.lr;symm;refine zcK ha L (by omega) (by omega) (by omega) B.r2 fun p1 H1 f1 s1 e1=>?_;have el:(ps.length:Int)+1=(rows.length:Int)+1:=by omega
  rw [el] at e1 ⊢;have hrl:=zn0 hs rs ((rows.length:Int)+1);symm;refine ziU (SqL.of e1) (by omega) fun p2 H2 R2=>?_;have hP:∀ r∈prsB (zah hs rs ((rows.length:Int)+1)),zcy rs (hs.getD rows.length 0) r=true:=fun r hr=>zeD.mp hr;generalize prsB (zah hs rs ((rows.length:Int)+1))=Pr at *;obtain ⟨s2,f2,ps2,e2,l2,nd2,r2⟩:=id R2;have s12:=s1.trans s2;refine zaT (SqL.of e2) ?_;refine zbL (xs:=ps2.map V.ref) (fun i σ H'=>Same H2 H'∧(∃ v,σ=[some (.ref a),some (.ref b),some (.ref c),some (.int ((rows.length:Int)+1)),v])∧∀ j,j < i→¬Ext hs rs (rows++[Pr.getD j []])) ⟨Same.refl _,⟨none,rfl⟩,fun j hj=>absurd hj (by omega)⟩ ?_ ?_ ?_
  ·rintro i σ H' _ ⟨s,_,_⟩;exact SqL.of (s _ _ e2)
  ·rintro i x σ H' hx ⟨s,⟨v,rfl⟩,h0⟩;obtain ⟨hi,rfl⟩:=zfU hx;obtain ⟨g1,g2,g3⟩:=r2 i (by omega);have sH:=s12.trans s;have hc':=sH _ _ hc;have hrow:=s _ _ g1;have hpair:=hP _ (getD_mem (d:=[]) (show i < Pr.length by omega));symm;refine zau (by simp) fun p3 H3 f3 s3 e3=>?_;refine zhV (s3 _ _ hc') e3 (by rw [length_map];simp only [length_cons,length_nil];omega) fun p4 H4 f4 s4 e4=>?_;have s24:=s3.trans s4;have sH4:=sH.trans s24;symm;have L4:LL K H4 p4 (rows++[Pr.getD i []]):=LL.push (q:=ps2.getD i 0) e4 hpl (s24 _ _ hrow) fun j hj=>sH4 _ _ (hpr j hj);refine zhz (sH4.seq ha) (L.same sH4) L4 B (zfI P hl hpair) (fun hx H5 s5=>?_) (fun hx H5 s5=>?_)
   ·symm;refine iteT ?_;symm;exact q1 i (by omega) hx h0 _ _ (s1.free g2) (sH4.trans s5) (s5 _ _ (s24 _ _ hrow))
   ·symm;refine iteF ?_;symm;refine ⟨(s.trans s24).trans s5,⟨_,rfl⟩,fun j hj=>?_⟩
    by_cases e:j=i
    ·subst e;exact hx
    ·exact h0 j (by omega)
  ·rintro σ H' ⟨s,⟨v,rfl⟩,h0⟩;symm;refine q0 (fun r hr=>?_) _ (s12.trans s);obtain ⟨j,hj,rfl⟩:=mem_getD (d:=[]) hr;exact h0 j (by rw [length_map];omega)
theorem zdU {H:Hp} {Q:VK} {E:XK} {a b c:Addr} {hs:List Int} {rs rows:LI} {ps:List Addr} (h1:SqL K H a (hs.map V.int)) (h2:LL K H b rs) (h3:H c=some (.lst (ps.map V.ref))) (h4:ps.length=rows.length) (h5:∀ i,i < rows.length→H (ps.getD i 0)=some (.lst ((rows.getD i []).map V.int))) (B:InB hs rs) (P:zcs hs rs rows) (hl:rows.length < hs.length)
  (q0:(∀ r∈prsB (zah hs rs ((rows.length:Int)+1)),¬Ext hs rs (rows++[r]))→∀ H',Same H H'→Q .non H')
  (q1:∀ i,i < (prsB (zah hs rs ((rows.length:Int)+1))).length→Ext hs rs (rows++[(prsB (zah hs rs ((rows.length:Int)+1))).getD i []])→(∀ j,j < i→¬Ext hs rs (rows++[(prsB (zah hs rs ((rows.length:Int)+1))).getD j []])) →
   ∀ p H',H p=none→Same H H'→H' p=some (.lst (((prsB (zah hs rs ((rows.length:Int)+1))).getD i []).map V.int))→Q (.ref p) H'):zcd K [.ref a,.ref b,.ref c] H Q E:=⟨rfl,a,b,c,hs,rs,rows,ps,rfl,h1,h2,h3,h4,h5,B,P,hl,q0,q1⟩
def zcR (K:PySem.W.Frag):Sp:=fun vs H Q _=>vs.length=2∧∃ (a b:Addr) (hs:List Int) (rs:LI),vs=[.ref a,.ref b]∧SqL K H a (hs.map V.int)∧LL K H b rs∧InB hs rs∧(zbZ hs rs none→∀ H',Same H H'→Q .non H')∧∀ rows,zbZ hs rs (some rows)→∀ p H',RowsAt H p rows H'→Q (.ref p) H'
theorem zev (T:Txt K mg t):FnOk P w K mg base CX0 21 t.f_10 t.d_10 ["papers","readers"] (zcR K):=by
 have G_11:=zdB (P:=P) (w:=w) (base:=base) T;refine T.F_10.ok sc_10 (fun _ _ _ _ h=>h.1) fun cdv A outer s H vs Q E hr h=>by
  refine ⟨_,(zab (zax (i:=2) sc_10.nd rfl (Or.inl rfl) (zaN pa_nil))
   (zab (zhQ PassesOwn.never (zap (op_lt) (zag (zai (K:=K) rfl) (by rfl) T.z_len (by rfl) (zaa (pv 2) pa_nil)) (zag (zai (K:=K) rfl) (by rfl) T.z_len (by rfl) (zaa (pv 0) pa_nil)) (zay _))
   (zab (zax (i:=3) sc_10.nd rfl (Or.inl rfl) (zal G_11 (hr.mono (by decide)) (by rfl) T.m_11 T.F_11.kp T.b_11 .nil zav (zaa (pv 0) (zaa (pv 1) (zaa (pv 2) pa_nil)))))
   (zab (zaS (zap (op_isNN) (pv 3) zbW (zay _))
   (zae (zak zbW)) pss_nil)
   (zae (zaK (zbK (K:=K) rfl PySem.F.plainAttrs_list PySem.F.slot_list_append PySem.F.type_list_append mt_append (pv 2) (zaa (pv 3) pa_nil)))))))
   (zae (zak (pv 2))))),?_⟩
  obtain ⟨_,a,b,hs,rs,rfl,ha,L,B,q0,q1⟩:=h;have B1:=B.lp;symm;refine zau (by decide) fun p1 H1 f1 s1 e1=>?_;symm;refine ⟨fun n σ H'=>∃ rows v,σ=[some (.ref a),some (.ref b),some (.ref p1),v]∧RowsAt H p1 rows H'∧rows.length+n=hs.length∧zcs hs rs rows∧(rows=[]∨Ext hs rs rows)∧∀ full,zaW hs rs full=true→nbB rows full=true,⟨hs.length,[],none,rfl,RowsAt.start f1 s1 e1,by simp,⟨by simp,fun k hk=>absurd hk (by simp)⟩,.inl rfl,fun full _=>rfl⟩,?_⟩;rintro n σ H' ⟨rows,v,rfl,R,hn,P,hx,hb⟩;obtain ⟨sR,fR,ps,eR,lR,ndR,rR⟩:=id R;have ha':=sR.seq ha;symm;refine zbk (fun hlt=>?_) (fun hge=>?_)
  ·refine ⟨fun σ H''=>∃ rows v,σ=[some (.ref a),some (.ref b),some (.ref p1),v]∧RowsAt H p1 rows H''∧rows.length+(n-1)=hs.length∧zcs hs rs rows∧(rows=[]∨Ext hs rs rows)∧∀ full,zaW hs rs full=true→nbB rows full=true,?_,?_⟩
   ·rintro σ' H'' ⟨rows',v',h1,h2,h3,h4⟩;exact ⟨n-1,by omega,rows',v',h1,h2,h3,h4⟩
   ·symm;refine zdU ha' (L.same sR) eR lR (fun i hi=>(rR i hi).1) B P (by omega) (fun hno H2 s2=>?_) (fun i hi hxi h0 p2 H2 f2 s2 e2=>?_)
    ·symm;refine iteT ?_;symm;have hne:=ziY (by omega) hno;refine q0 (fun rows'=>?_) _ (sR.trans s2);rcases hx with hx | hx
     ·subst hx;rw [Bool.eq_false_iff];intro z;exact hne ⟨rows',z⟩
     ·exact absurd hx hne
    ·have hpair:=zeD.mp (getD_mem (d:=[]) hi);have hst:=ziZ P (by omega) hi h0 hb;symm;refine iteF ?_;generalize (prsB (zah hs rs ((rows.length:Int)+1))).getD i []=row at *;have eR2:=s2 _ _ eR;symm;refine zaM (s2 _ _ eR) (by rw [length_map];omega) fun H3 b3 e3=>?_;symm;exact ⟨rows++[row],_,rfl,R.push f2 s2 e2 (s2 _ _ eR) b3 e3,by rw [length_append,length_singleton];omega,zfI P (by omega) hpair,.inr hxi,hst⟩
  ·have hlen:rows.length=hs.length:=by omega
   symm;refine q1 rows ⟨?_,hb⟩ _ _ R;rcases hx with hx | ⟨more,hm⟩
   ·subst hx;refine zbr.mpr ⟨hlen,fun k hk=>?_,fun k hk=>?_⟩
    ·rw [← hlen] at hk;simp at hk
    ·have:=(B.rl k hk).1;show ((0:Nat):Int)≤_;simpa using this
   ·have h1:=(zbr.mp hm).1;rw [length_append] at h1;have:more=[]:=eq_nil_of_length_eq_zero (by omega);rw [this,append_nil] at hm;exact hm
theorem zfb {H:Hp} {a b:Addr} {hs:List Int} {rs:LI} {Q:VK} {E:XK} (h1:SqL K H a (hs.map V.int)) (h2:LL K H b rs) (h4:InB hs rs) (q0:zbZ hs rs none→∀ H',Same H H'→Q .non H') (q1:∀ rows,zbZ hs rs (some rows)→∀ p H',RowsAt H p rows H'→Q (.ref p) H'):zcR K [.ref a,.ref b] H Q E:=⟨rfl,a,b,hs,rs,rfl,h1,h2,h4,q0,q1⟩
def zej (K:PySem.W.Frag) (C:Addr):Sp:=fun vs H Q _=>vs.length=1∧∃ (x:Addr) (F:Addr→Prop) (st:ExS),vs=[.ref x]∧ExAt C H x F st∧InB st.hs st.rs∧st.dl=none∧(zbZ st.hs st.rs none→∀ H',Same H H'→Q (.bl false) H')∧∀ rows,zbZ st.hs st.rs (some rows)→∀ H' F',ExFr H H' F F'→ExAt C H' x F' { st with dl:=some (rows,[]) }→Q (.bl true) H'
theorem zgP (T:Txt K mg t):FnOk P w K mg base CX0 22 t.f_28 t.d_28 ["self"] (zej K t.C_Exam):=by
 have G_39:=zaQ (P:=P) (w:=w) (base:=base) T;have G_10:=zev (P:=P) (w:=w) (base:=base) T;refine T.F_28.ok sc_28 (fun _ _ _ _ h=>h.1) fun cdv A outer s H vs Q E hr h=>by
  refine ⟨_,(zab (zaK (zbv (pv 0) T.cl_Exam T.me_39 G_39 (hr.mono (by decide)) T.b_39 .nil zav))
   (zab (zax (i:=1) sc_28.nd rfl (Or.inl rfl) (zal G_10 (hr.mono (by decide)) (by rfl) T.m_10 T.F_10.kp T.b_10 .nil zav (zaa (zaG (K:=K) rfl (pv 0)) (zaa (zaG (K:=K) rfl (pv 0)) pa_nil))))
   (zab (zaS (zap (op_isNN) (pv 1) zbW (zay _))
   (zae (zak za9)) pss_nil)
   (zab (zbQ (K:=K) rfl (pv 0) za9)
   (zab (zbQ (K:=K) rfl (pv 0) (pv 1))
   (zab (zbQ (K:=K) rfl (pv 0) (zba (zaq (sc:=zac s_28) (XN:=["self","rows"]) (N:=["row"]) (own:=1) (js:=[]) rfl rfl (by decide +kernel)) rfl (zaI (K:=K) rfl (pv 1)) (fun _ _ _ _ _=>(zar (i:=0) (show List.Nodup [(Str.ofString "row")] by decide +kernel) rfl (Or.inl rfl))) (fun _ _ _ _ _=>zbl) (fun _ _ _ _ _=>pe_dnewK)))
   (zae (zak za9)))))))),?_⟩
  obtain ⟨_,x,F,st,rfl,E0,BB,hd,q0,q1⟩:=h;have B1:=BB.lp;have B2:=BB.lr;have E0':=E0;walk_at "hd";have L:LL K H e.b st.rs:=⟨e.ps,SqL.of hhb,I.lp,I.rp⟩
  symm;refine za4 E0' hd ?_;symm;refine zfb (SqL.of hha) L BB (fun F0 H1 s1=>?_) (fun rows F1 p H1 R1=>?_)
  ·symm;rw [decide_eq_true (rfl:V.non=V.non)];refine iteT ?_;symm;exact q0 F0 H1 s1
  ·have hrt:zaW st.hs st.rs rows=true:=F1.1;have hrl:=(zbr.mp hrt).1;obtain ⟨psr,hpr,hlr,_⟩:=R1.rows;symm;rw [decide_eq_false (show ¬V.ref p=V.non by intro z;cases z)];refine iteF ?_;have x1:=R1.same _ _ hob;have xp:p≠e.x:=(zaj hob R1.new).symm;symm;refine za5 x1 hcl nD (show 6 < 1000 by decide) fun H2 b2 x2=>?_;rw [exFs_pd] at x2;symm;refine za5 x2 hcl nC (show 6 < 1000 by decide) fun H3 b3 x3=>?_;rw [exFs_pc] at x3;have hp3:H3 p=some (.lst (psr.map V.ref)):=by rw [b3 _ xp,b2 _ xp];exact hpr
   symm;refine zaT (SqL.of hp3) ?_;refine zcj (ziK (zcr.one (zbe (SqL.of hp3))) (by rw [length_map];omega) rfl fun d ds H4 f4 s4 e4 l4 nd4 hd4=>?_);rw [length_map,hlr] at l4;rw [length_map,hlr] at hd4;have x4:=s4 _ _ x3;symm;refine za5 x4 hcl nE (show 6 < 1000 by decide) fun H5 b5 x5=>?_;rw [exFs_pe] at x5;have xd:d≠e.x:=(zaj x3 f4).symm;have kk:∀ b o,H1 b=some o→b≠e.x→H5 b=some o:=fun b o eb nb=>by
    rw [b5 _ nb];refine s4 _ _ ?_;rw [b3 _ nb,b2 _ nb];exact eb
   have n1:∀ b,H3 b=none→H1 b=none:=fun b eb=>by
    cases h1:H1 b with
    | none=>rfl
    | some o =>
      by_cases nb:b=e.x
      ·rw [nb,x3] at eb;cases eb
      ·rw [b3 _ nb,b2 _ nb,h1] at eb;cases eb
   have nx4:∀ i,i < rows.length→ds.getD i 0≠e.x:=fun i hi z=>by have:=(hd4 i hi).2.1;rw [z,x3] at this;cases this
   obtain ⟨e',hx',I',fp'⟩:=I.deal (H5:=H5) (p:=p) (q:=d) (rows:=rows) (ds:=ds) hrt R1 kk x5 (by rw [b5 _ xd];exact e4) (n1 _ f4) l4 nd4 (fun i hi=>⟨by rw [b5 _ (nx4 i hi)];exact (hd4 i hi).1,n1 _ (hd4 i hi).2.1,(hd4 i hi).2.2⟩);symm;refine q1 rows F1 H5 _ ⟨fun b o eb nb=>?_,fun b z=>?_⟩ (hx'▸I'.at)
   ·exact kk b o (R1.same _ _ eb) (fun z=>nb ((hF _).mpr (by rw [z];exact own_x)))
   ·exact (fp' b z).imp (fun z=>(hF b).mpr z) id
theorem zfc {K:PySem.W.Frag} {C x:Addr} {H:Hp} {F:Addr→Prop} {st:ExS} {Q:VK} {E:XK} (h:ExAt C H x F st) (B:InB st.hs st.rs) (hd:st.dl=none) (q0:zbZ st.hs st.rs none→∀ H',Same H H'→Q (.bl false) H') (q1:∀ rows,zbZ st.hs st.rs (some rows)→∀ H' F',ExFr H H' F F'→ExAt C H' x F' { st with dl:=some (rows,[]) }→Q (.bl true) H'):zej K C [.ref x] H Q E:=⟨rfl,x,F,st,rfl,h,B,hd,q0,q1⟩
def zce (K:PySem.W.Frag) (C:Addr):Sp:=fun vs H Q _=>vs.length=1∧∃ (x:Addr) (F:Addr→Prop) (st:ExS),vs=[.ref x]∧ExAt C H x F st∧InB st.hs st.rs∧((st.dl=none→∀ H',Same H H'→Q .non H')∧∀ nm en,st.dl=some (nm,en)→∀ p H',RowsAt H p (nm.map (List.take 2)) H'→Q (.ref p) H')
theorem zfd (T:Txt K mg t):FnOk P w K mg base CX0 1 t.f_34 t.d_34 ["self"] (zce K t.C_Exam):=by
 refine T.F_34.ok sc_34 (fun _ _ _ _ h=>h.1) fun cdv A outer s H vs Q E hr h=>by
  refine ⟨_,(zab (zaS (zbd (zaw (K:=K) rfl (zaG (K:=K) rfl (pv 0)) (fun _=>rfl)))
   (zae (zak zbW)) pss_nil)
   (zae (zak (zba (zaq (sc:=zac s_34) (XN:=["self"]) (N:=["named"]) (own:=1) (js:=[]) rfl rfl (by decide +kernel)) rfl (zaI (K:=K) rfl (zaG (K:=K) rfl (pv 0))) (fun _ _ _ _ _=>(zar (i:=0) (show List.Nodup [(Str.ofString "named")] by decide +kernel) rfl (Or.inl rfl))) (fun _ _ _ _ _=>zbl) (fun _ _ _ _ _=>(zdH (zdL (K:=K) rfl) (pv 0) po_none (zeI zad))))))),?_⟩
  obtain ⟨_,x,F,st,rfl,E0,BB,q⟩:=h;have B1:=BB.lp;have B2:=BB.lr;walk_at "hd";obtain ⟨q0,q1⟩:=q;have lq:=I.lq;have l10:=I.wf.n10 BB;symm
  cases hdl:st.dl with
  | none =>
    refine iteT ?_;symm;exact q0 hdl H (Same.refl H)
  | some d =>
    obtain ⟨nm,en⟩:=d;refine iteF ?_;rw [hdl] at hob;have fC:=@exFs_c (.ref e.a) (.ref e.b) (.int st.step) (.bl (some (nm,en)).isSome) (.ref e.c) (.ref e.d);have enm:st.nm=nm:=by unfold ExS.nm;rw [hdl];rfl
    rw [enm] at lq l10;have rq:=I.rq;rw [enm] at rq;symm;refine zaT (SqL.of hhc) ?_;have hl:=q1;refine zcj (zca (zcr.one (zbe (SqL.of hhc))) (by rw [length_map];omega) (fun i=>(nm.getD i []).take 2) (fun i H' Q' hi s q'=>?_) fun p H2 R=>?_)
    ·rw [length_map,lq] at hi;have ex:(e.qs.map V.ref).getD i .non=.ref (e.qs.getD i 0):=by
      rw [getD_eq_getElem?_getD,getElem?_map,getElem?_eq_getElem (by omega),getD_eq_getElem?_getD,getElem?_eq_getElem (by omega)];rfl
     rw [ex];have hrow:=s _ _ (rq i hi);show (_:TE) (some (.ref (e.qs.getD i 0))::_) _ _;symm;refine zcx (SqL.of hrow) fun p2 H2 f2 s2 e2=>?_;rw [show cutV ((nm.getD i []).map V.int) none (some 2)=((nm.getD i []).map V.int).take 2 from zhf 2,← map_take] at e2;exact q' p2 H2 f2 s2 e2
    ·rw [length_map,lq] at R;have em:(List.range nm.length).map (fun i=>(nm.getD i []).take 2)=nm.map (List.take 2):=by
      refine ext_getElem (by simp) fun i h1 h2=>?_;simp at h1 ⊢;rw [getElem?_eq_getElem h1];rfl
     rw [em] at R;exact q1 nm en hdl p H2 R
theorem zfq {K:PySem.W.Frag} {C x:Addr} {H:Hp} {F:Addr→Prop} {st:ExS} {Q:VK} {E:XK} (h:ExAt C H x F st) (B:InB st.hs st.rs) (q:((st.dl=none→∀ H',Same H H'→Q .non H')∧∀ nm en,st.dl=some (nm,en)→∀ p H',RowsAt H p (nm.map (List.take 2)) H'→Q (.ref p) H')):zce K C [.ref x] H Q E:=⟨rfl,x,F,st,rfl,h,B,q⟩
theorem zds {K:PySem.W.Frag} {C x:Addr} {H:Hp} {F:Addr→Prop} {st:ExS} {Q:VK} {E:XK} {σ:L2.St} (h:ExAt C H x F st) (B:InB st.hs st.rs) (q:((st.dl=none→∀ H',Same H H'→Q .non H')∧∀ nm en,st.dl=some (nm,en)→∀ p H',RowsAt H p (nm.map (List.take 2)) H'→Q (.ref p) H')):zbp C "dealing" (zce K C) E tNil σ (.ref x) H Q:=by
 obtain ⟨dx,fs,e,l⟩:=h.ob;exact zaO e (l _ (by decide +kernel)) (zes (zfq h B q))
def zek (K:PySem.W.Frag):Sp:=fun vs H Q _=>vs.length=1∧∃ x:V,vs=[x]∧((∃ i:Int,x=.int i∧Q (.bl true) H))
theorem zdb (T:Txt K mg t):FnOk P w K mg base CX0 1 t.f_48 t.d_48 ["_law_found"] (zek K):=by
 refine T.F_48.ok sc_48 (fun _ _ _ _ h=>h.1) fun cdv A outer s H vs Q E hr h=>by
  refine ⟨_,(zae (zak (zgi (zag (zaP (K:=K) rfl) (by rfl) T.z_isinstance (by rfl) (zaa (pv 0) (zaa (zcD (v:=.ty "int") (u:=.type "int") (by rfl) T.z_int (by rfl) rfl) pa_nil))) (zfs (zjd (zag (zaP (K:=K) rfl) (by rfl) T.z_isinstance (by rfl) (zaa (pv 0) (zaa (zcD (v:=.ty "bool") (u:=.type "bool") (by rfl) T.z_bool (by rfl) rfl) pa_nil)))))))),?_⟩;obtain ⟨_,x,rfl,i,rfl,q⟩:=h;symm;refine iteT ?_;symm;exact q
theorem zfe {H:Hp} {i:Int} {Q:VK} {E:XK} (q:Q (.bl true) H):zek K [.int i] H Q E:=⟨rfl,_,rfl,i,rfl,q⟩
local macro_rules | `(tactic| walk_at "rd1")=>`(tactic| (with_reducible refine zfe ?_))
def zfJ (K:PySem.W.Frag):Sp:=fun vs H Q _=>vs.length=2∧∃ (a b:Addr) (xs ys:List Int),vs=[.ref a,.ref b]∧H a=some (.lst (xs.map V.int))∧SqL K H b (ys.map V.int)∧ys.length≤1000000∧Q (.bl (decide (xs=ys))) H
theorem zfK (T:Txt K mg t):FnOk P w K mg base CX0 2 t.f_50 t.d_50 ["_law_found","_law_due"] (zfJ K):=by
 have G_48:=zdb (P:=P) (w:=w) (base:=base) T;refine T.F_50.ok sc_50 (fun _ _ _ _ h=>h.1) fun cdv A outer s H vs Q E hr h=>by
  refine ⟨_,(zab (zaS (zcv (zbd (zaw (K:=K) rfl (zag (zaP (K:=K) rfl) (by rfl) T.z_isinstance (by rfl) (zaa (pv 0) (zaa (zcD (v:=.ty "list") (u:=.type "list") (by rfl) T.z_list (by rfl) rfl) pa_nil))) (fun _=>rfl))) (zbX (zap (zc8 (K:=K) rfl hr.units0) (zag (zai (K:=K) rfl) (by rfl) T.z_len (by rfl) (zaa (pv 0) pa_nil)) (zag (zai (K:=K) rfl) (by rfl) T.z_len (by rfl) (zaa (pv 1) pa_nil)) (zay _)))).pt
   (zae (zak za9)) pss_nil)
   (zab (za2 PassesOwn.never rfl (zaX (by rfl) T.z_range (zaa (zag (zai (K:=K) rfl) (by rfl) T.z_len (by rfl) (zaa (pv 1) pa_nil)) pa_nil)) (zar (i:=2) sc_50.nd rfl (Or.inl rfl))
   (zae (zaS (zcv (zbd (zaw (K:=K) rfl (zal G_48 (hr.mono (by decide)) (by rfl) T.m_48 T.F_48.kp T.b_48 .nil zav (zaa (zas (zaf (K:=K) rfl) (pv 0) (pv 2) (fun _ _=>rfl)) pa_nil)) (fun _=>rfl))) (zbX (zap (zc8 (K:=K) rfl hr.units0) (zas (zaf (K:=K) rfl) (pv 0) (pv 2) (fun _ _=>rfl)) (zas (zaf (K:=K) rfl) (pv 1) (pv 2) (fun _ _=>rfl)) (zay _)))).pt
   (zae (zak za9)) pss_nil)))
   (zae (zak za9)))),?_⟩
  obtain ⟨_,a,b,xs,ys,rfl,ha,hb,hy,q⟩:=h;symm;refine iteF ?_;symm;refine zeM (fun h0=>?_) (fun h0=>?_)
  ·rw [decide_eq_false (by rintro rfl;exact h0 rfl)] at q;symm;exact q
  ·have hlen:xs.length=ys.length:=by omega
   symm;refine zb3 (by omega) (by omega) ?_;refine zb8 (fun i σ H1=>∃ v,σ=[some (.ref a),some (.ref b),v]∧H1=H∧∀ j,j < i→xs.getD j 0=ys.getD j 0) ⟨none,rfl,rfl,fun j hj=>absurd hj (by omega)⟩ ?_ ?_
   ·rintro i σ H1 hi ⟨v,rfl,rfl,hall⟩;symm;refine iteF ?_;symm;refine zeM (fun h1=>?_) (fun h1=>?_)
    ·rw [decide_eq_false (by rintro rfl;exact h1 rfl)] at q;symm;exact q
    ·symm;refine ⟨_,rfl,rfl,fun j hj=>?_⟩
     by_cases e:j=i
     ·subst e;have e2:(0+(j:Int)).toNat=j:=by omega
      rw [e2] at h1;exact h1
     ·exact hall j (by omega)
   ·rintro σ H1 ⟨v,rfl,rfl,hall⟩;rw [decide_eq_true (zkM hlen fun j hj=>hall j (by omega))] at q;symm;exact q
theorem zgQ {H:Hp} {a b:Addr} {xs ys:List Int} {Q:VK} {E:XK} (h:H a=some (.lst (xs.map V.int))) (h':SqL K H b (ys.map V.int)) (hl:ys.length≤1000000) (q:Q (.bl (decide (xs=ys))) H):zfJ K [.ref a,.ref b] H Q E:=⟨rfl,a,b,xs,ys,rfl,h,h',hl,q⟩
def zff (K:PySem.W.Frag):Sp:=fun vs H Q _=>vs.length=2∧∃ (a b:Addr) (xs ys:LI),vs=[.ref a,.ref b]∧(∃ zs,H a=some (.lst zs))∧LL K H a xs∧LL K H b ys∧ys.length≤1000000∧(∀ i,i < ys.length→(ys.getD i []).length≤1000000)∧Q (.bl (decide (xs=ys))) H
theorem zfg (T:Txt K mg t):FnOk P w K mg base CX0 3 t.f_51 t.d_51 ["_law_found","_law_due"] (zff K):=by
 have G_50:=zfK (P:=P) (w:=w) (base:=base) T;refine T.F_51.ok sc_51 (fun _ _ _ _ h=>h.1) fun cdv A outer s H vs Q E hr h=>by
  refine ⟨_,(zab (zaS (zcv (zbd (zaw (K:=K) rfl (zag (zaP (K:=K) rfl) (by rfl) T.z_isinstance (by rfl) (zaa (pv 0) (zaa (zcD (v:=.ty "list") (u:=.type "list") (by rfl) T.z_list (by rfl) rfl) pa_nil))) (fun _=>rfl))) (zbX (zap (zc8 (K:=K) rfl hr.units0) (zag (zai (K:=K) rfl) (by rfl) T.z_len (by rfl) (zaa (pv 0) pa_nil)) (zag (zai (K:=K) rfl) (by rfl) T.z_len (by rfl) (zaa (pv 1) pa_nil)) (zay _)))).pt
   (zae (zak za9)) pss_nil)
   (zab (za2 PassesOwn.never rfl (zaX (by rfl) T.z_range (zaa (zag (zai (K:=K) rfl) (by rfl) T.z_len (by rfl) (zaa (pv 1) pa_nil)) pa_nil)) (zar (i:=2) sc_51.nd rfl (Or.inl rfl))
   (zae (zaS (zbd (zaw (K:=K) rfl (zal G_50 (hr.mono (by decide)) (by rfl) T.m_50 T.F_50.kp T.b_50 .nil zav (zaa (zas (zaf (K:=K) rfl) (pv 0) (pv 2) (fun _ _=>rfl)) (zaa (zas (zaf (K:=K) rfl) (pv 1) (pv 2) (fun _ _=>rfl)) pa_nil))) (fun _=>rfl)))
   (zae (zak za9)) pss_nil)))
   (zae (zak za9)))),?_⟩
  obtain ⟨_,a,b,xs,ys,rfl,⟨zs,hz⟩,⟨ps,ha,hla,hpa⟩,⟨qs,hb,hlb,hpb⟩,hy,hyi,q⟩:=h;symm;refine iteF ?_;symm;refine zeM (fun h0=>?_) (fun h0=>?_)
  ·rw [decide_eq_false (by rintro rfl;exact h0 (by omega))] at q;symm;exact q
  ·have hlen:xs.length=ys.length:=by omega
   symm;refine zb3 (by omega) (by omega) ?_;refine zb8 (fun i σ H1=>∃ v,σ=[some (.ref a),some (.ref b),v]∧H1=H∧∀ j,j < i→xs.getD j []=ys.getD j []) ⟨none,rfl,rfl,fun j hj=>absurd hj (by omega)⟩ ?_ ?_
   ·rintro i σ H1 hi ⟨v,rfl,rfl,hall⟩;symm;have e2:(0+(i:Int)).toNat=i:=by omega
    rw [e2];refine zgQ (hpa i (by omega)) (SqL.of (hpb i (by omega))) (hyi i (by omega)) ?_;symm;refine zeM (fun h1=>?_) (fun h1=>?_)
    ·rw [decide_eq_false (by rintro rfl;exact h1 rfl)] at q;symm;exact q
    ·symm;refine ⟨_,rfl,rfl,fun j hj=>?_⟩
     by_cases e:j=i
     ·subst e;exact h1
     ·exact hall j (by omega)
   ·rintro σ H1 ⟨v,rfl,rfl,hall⟩;rw [decide_eq_true (zgv hlen fun j hj=>hall j (by omega))] at q;symm;exact q
theorem zea {H:Hp} {a b:Addr} {xs ys:LI} {Q:VK} {E:XK} (hz:∃ zs,H a=some (.lst zs)) (h:LL K H a xs) (h':LL K H b ys) (hl:ys.length≤1000000) (hi:∀ i,i < ys.length→(ys.getD i []).length≤1000000) (q:Q (.bl (decide (xs=ys))) H):zff K [.ref a,.ref b] H Q E:=⟨rfl,a,b,xs,ys,rfl,hz,h,h',hl,hi,q⟩
def zfh (K:PySem.W.Frag):Sp:=fun vs H Q _=>vs.length=3∧∃ (b r:Addr) (h:Int) (rs:LI) (row:List Int),vs=[.ref b,.int h,.ref r]∧LL K H b rs∧(∀ i,i < rs.length→(rs.getD i []).length=2)∧H r=some (.lst (row.map V.int))∧Q (.bl (zcy rs h row)) H
theorem zhA (T:Txt K mg t):FnOk P w K mg base CX0 2 t.f_53 t.d_53 ["_law_staff","_law_house","_law_row_here"] (zfh K):=by
 have G_48:=zdb (P:=P) (w:=w) (base:=base) T;refine T.F_53.ok sc_53 (fun _ _ _ _ h=>h.1) fun cdv A outer s H vs Q E hr h=>by
  refine ⟨_,(zab (zaS (zcv (zbd (zaw (K:=K) rfl (zag (zaP (K:=K) rfl) (by rfl) T.z_isinstance (by rfl) (zaa (pv 2) (zaa (zcD (v:=.ty "list") (u:=.type "list") (by rfl) T.z_list (by rfl) rfl) pa_nil))) (fun _=>rfl))) (zbX (zap (zc8 (K:=K) rfl hr.units0) (zag (zai (K:=K) rfl) (by rfl) T.z_len (by rfl) (zaa (pv 2) pa_nil)) zad (zay _)))).pt
   (zae (zak za9)) pss_nil)
   (zab (za2 PassesOwn.never rfl (zaI (K:=K) rfl (pv 2)) (zar (i:=3) sc_53.nd rfl (Or.inl rfl))
   (zab (zaS (zcv (zbd (zaw (K:=K) rfl (zal G_48 (hr.mono (by decide)) (by rfl) T.m_48 T.F_48.kp T.b_48 .nil zav (zaa (pv 3) pa_nil)) (fun _=>rfl))) (zcv (zap (op_lt) (pv 3) zad (zay _)) (zbX (zap (op_gt) (pv 3) (zag (zai (K:=K) rfl) (by rfl) T.z_len (by rfl) (zaa (pv 0) pa_nil)) (zay _))))).pt
   (zae (zak za9)) pss_nil)
   (zae (zaS (zap (zbF (K:=K) rfl hr.units0) (zas (zaf (K:=K) rfl) (zas (zaf (K:=K) rfl) (pv 0) (zat (op_sub) (pv 3) zad) (fun _ _=>rfl)) zad (fun _ _=>rfl)) (pv 1) (zay _))
   (zae (zak za9)) pss_nil))))
   (zae (zak (zb7 (op_lt) (zas (zaf (K:=K) rfl) (pv 2) zad (fun _ _=>rfl)) (zas (zaf (K:=K) rfl) (pv 2) zad (fun _ _=>rfl)) (zay _)))))),?_⟩
  obtain ⟨_,b,r,h,rs,row,rfl,hL,h2,hr0,q⟩:=h;obtain ⟨ps,hb,hl,hrow⟩:=id hL;unfold zcy at q;symm;refine iteF ?_;symm;refine zeM (fun h0=>?_) (fun h0=>?_)
  ·rw [decide_eq_false (fun z=>h0 (by omega)),Bool.false_and,Bool.false_and] at q;symm;exact q
  rw [decide_eq_true (show row.length=2 by omega),Bool.true_and] at q;symm;refine zaT (SqL.of hr0) ?_;refine zbL (xs:=row.map V.int) (fun i σ H'=>∃ v,σ=[some (.ref b),some (.int h),some (.ref r),v]∧H'=H∧∀ j,j < i→(decide (1≤row.getD j 0) && decide (row.getD j 0≤(rs.length:Int)) && !decide ((rs.getD (row.getD j 0-1).toNat []).getD 0 0=h))=true) ⟨none,rfl,rfl,fun j hj=>absurd hj (by omega)⟩ ?_ ?_ ?_
  ·rintro i σ H' _ ⟨_,rfl,rfl,_⟩;exact SqL.of hr0
  ·rintro i x σ H' hxi ⟨_,rfl,rfl,hall⟩;obtain ⟨hi,rfl⟩:=zcq hxi;have no:(decide (1≤row.getD i 0) && decide (row.getD i 0≤(rs.length:Int)) && !decide ((rs.getD (row.getD i 0-1).toNat []).getD 0 0=h))=false→Q (.bl false) H':=fun z=>by
    rw [zjM (c:=fun x=>decide (1≤x) && decide (x≤(rs.length:Int)) && !decide ((rs.getD (x-1).toNat []).getD 0 0=h)) hi z,Bool.false_and] at q;exact q
   symm;refine iteF ?_;symm;refine zbk (fun h1=>?_) (fun h1=>?_)
   ·refine iteT ?_;symm;exact no (by rw [decide_eq_false (by omega)];rfl)
   symm;refine zbk (fun h3=>?_) (fun h3=>?_)
   ·symm;exact no (by rw [decide_eq_false (show ¬row.getD i 0≤(rs.length:Int) by omega),Bool.and_false];rfl)
   have hk:(row.getD i 0-1).toNat < rs.length:=by omega
   have hrk:=hrow _ hk;have h2k:=h2 _ hk;symm;refine zbk (fun h4=>?_) (fun h4=>?_)
   ·symm;refine no ?_;rw [show (rs.getD (row.getD i 0-1).toNat []).getD 0 0=h from h4,decide_eq_true (rfl:h=h)];simp
   ·symm;refine ⟨_,rfl,rfl,fun j hj=>?_⟩
    by_cases e:j=i
    ·subst e;rw [decide_eq_true (show 1≤row.getD j 0 by omega),decide_eq_true (show row.getD j 0≤(rs.length:Int) by omega),decide_eq_false (show ¬(rs.getD (row.getD j 0-1).toNat []).getD 0 0=h from h4)];rfl
    ·exact hall j (by omega)
  ·rintro σ H' ⟨_,rfl,rfl,hall⟩;rw [length_map] at hall;rw [zkT (c:=fun x=>decide (1≤x) && decide (x≤(rs.length:Int)) && !decide ((rs.getD (x-1).toNat []).getD 0 0=h)) hall,Bool.true_and] at q;symm;exact q
theorem zi0 {H:Hp} {b r:Addr} {h:Int} {rs:LI} {row:List Int} {Q:VK} {E:XK} (h1:LL K H b rs) (h2:∀ i,i < rs.length→(rs.getD i []).length=2) (h3:H r=some (.lst (row.map V.int))) (q:Q (.bl (zcy rs h row)) H):zfh K [.ref b,.int h,.ref r] H Q E:=⟨rfl,b,r,h,rs,row,rfl,h1,h2,h3,q⟩
def zel (K:PySem.W.Frag):Sp:=fun vs H Q _=>vs.length=3∧∃ (a b c:Addr) (hs:List Int) (rs rows:LI),vs=[.ref a,.ref b,.ref c]∧SqL K H a (hs.map V.int)∧LL K H b rs∧(∀ i,i < rs.length→(rs.getD i []).length=2)∧(∃ zs,H c=some (.lst zs))∧LL K H c rows∧rs.length≤1000∧rows.length≤1000∧hs.length≤1000∧∀ H',Same H H'→Q (.bl (zaW hs rs rows)) H'
theorem zgR (T:Txt K mg t):FnOk P w K mg base CX0 3 t.f_54 t.d_54 ["_law_homes","_law_staff","_law_rows_here"] (zel K):=by
 have G_53:=zhA (P:=P) (w:=w) (base:=base) T;refine T.F_54.ok sc_54 (fun _ _ _ _ h=>h.1) fun cdv A outer s H vs Q E hr h=>by
  refine ⟨_,(zab (zaS (zcv (zbd (zaw (K:=K) rfl (zag (zaP (K:=K) rfl) (by rfl) T.z_isinstance (by rfl) (zaa (pv 2) (zaa (zcD (v:=.ty "list") (u:=.type "list") (by rfl) T.z_list (by rfl) rfl) pa_nil))) (fun _=>rfl))) (zbX (zap (zc8 (K:=K) rfl hr.units0) (zag (zai (K:=K) rfl) (by rfl) T.z_len (by rfl) (zaa (pv 2) pa_nil)) (zag (zai (K:=K) rfl) (by rfl) T.z_len (by rfl) (zaa (pv 0) pa_nil)) (zay _)))).pt
   (zae (zak za9)) pss_nil)
   (zab (za2 PassesOwn.never rfl (zaX (by rfl) T.z_range (zaa (zag (zai (K:=K) rfl) (by rfl) T.z_len (by rfl) (zaa (pv 0) pa_nil)) pa_nil)) (zar (i:=3) sc_54.nd rfl (Or.inr rfl))
   (zae (zaS (zbd (zaw (K:=K) rfl (zal G_53 (hr.mono (by decide)) (by rfl) T.m_53 T.F_53.kp T.b_53 .nil zav (zaa (pv 1) (zaa (zas (zaf (K:=K) rfl) (pv 0) (pv 3) (fun _ _=>rfl)) (zaa (zas (zaf (K:=K) rfl) (pv 2) (pv 3) (fun _ _=>rfl)) pa_nil)))) (fun _=>rfl)))
   (zae (zak za9)) pss_nil)))
   (zab (za2 PassesOwn.never rfl (zaX (by rfl) T.z_range (zaa (zag (zai (K:=K) rfl) (by rfl) T.z_len (by rfl) (zaa (pv 1) pa_nil)) pa_nil)) (zar (i:=3) sc_54.nd rfl (Or.inr rfl))
   (zae (zaS (zap (op_gt) (zag (zai (K:=K) rfl) (by rfl) T.z_len (by rfl) (zaa (zba (zaq (sc:=zac s_54) (XN:=["_law_homes","_law_staff","_law_rows_here","_law_k"]) (N:=["_law_row_here","_law_k"]) (own:=1) (js:=[3]) rfl rfl (by decide +kernel)) rfl (zaI (K:=K) rfl (pv 2)) (fun _ _ _ _ _=>(zar (i:=0) (show List.Nodup [(Str.ofString "_law_row_here"),(Str.ofString "_law_k")] by decide +kernel) rfl (Or.inl rfl))) (fun _ _ _ _ _=>(zcp (zap (zeg (K:=K) rfl (zdk hr)) (zat (op_addG) (pv 1) zad) (pv 0) (by with_unfolding_all rfl)))) (fun _ _ _ _ _=>(pv 0))) pa_nil)) (zas (zaf (K:=K) rfl) (zas (zaf (K:=K) rfl) (pv 1) (pv 3) (fun _ _=>rfl)) zad (fun _ _=>rfl)) (zay _))
   (zae (zak za9)) pss_nil)))
   (zae (zak za9))))),?_⟩
  obtain ⟨_,a,b,c,hs,rs,rows,rfl,ha,hL,h2,⟨zs,hz⟩,hM,l1,l2,l3,q⟩:=h;obtain ⟨ps,hb,hl,hrow⟩:=id hL;obtain ⟨qs,hc,hm,hrows⟩:=id hM;have hzs:SqL K H c (qs.map V.ref):=hc;unfold zaW at q;symm;refine iteF ?_;symm;refine zeM (fun h0=>?_) (fun h0=>?_)
  ·rw [decide_eq_false (fun z=>h0 (by omega)),Bool.false_and,Bool.false_and] at q;symm;exact q _ (Same.refl _)
  rw [decide_eq_true (show rows.length=hs.length by omega),Bool.true_and] at q;symm;refine zb3 (by omega) (by omega) ?_;refine zb8 (fun i σ H'=>∃ v,σ=[some (.ref a),some (.ref b),some (.ref c),v]∧H'=H∧∀ k,k < i→zcy rs (hs.getD k 0) (rows.getD k [])=true) ⟨none,rfl,rfl,fun k hk=>absurd hk (by omega)⟩ ?_ ?_
  ·rintro i σ H' hi ⟨_,rfl,rfl,hall⟩;have ei:(0+(i:Int)).toNat=i:=by omega
   symm;rw [ei];refine zi0 hL h2 (hrows i (by omega)) ?_;symm;refine zm4 (fun h1=>?_) (fun h1=>?_)
   ·rw [zcY (c:=fun k=>zcy rs (hs.getD k 0) (rows.getD k [])) (show i < hs.length by omega) h1,Bool.false_and] at q;symm;exact q _ (Same.refl _)
   ·symm;refine ⟨_,rfl,rfl,fun k hk=>?_⟩
    by_cases e:k=i
    ·subst e;exact h1
    ·exact hall k (by omega)
  rintro σ H' ⟨v,rfl,rfl,hall⟩;rw [zbg (c:=fun k=>zcy rs (hs.getD k 0) (rows.getD k [])) (fun k hk=>hall k (by omega)),Bool.true_and] at q;symm;refine zb3 (by omega) (by omega) ?_;refine zb8 (fun i σ H1=>∃ v,σ=[some (.ref a),some (.ref b),some (.ref c),v]∧Same H' H1∧∀ k,k < i→(cntB rows (0+(k:Int)+1):Int)≤(rs.getD k []).getD 1 0) ⟨v,rfl,Same.refl _,fun k hk=>absurd hk (by omega)⟩ ?_ ?_
  ·rintro i σ H1 hi ⟨_,rfl,s1,hle⟩;have ei:(0+(i:Int)).toNat=i:=by omega
   have hri:=s1 _ _ (hrow i (by omega));have h2i:=h2 i (by omega);have hc1:=s1.seq hc;have hb1:=s1.seq hb;symm;refine zaT hc1 ?_;refine zez (rows:=rows) (x:=0+(i:Int)+1) hc1 hm l2 (fun j H2 Q' hj s2 q'=>?_) fun p H2 zs2 f2 s2 e2 z2=>?_
   ·have hrj:=s2 _ _ (s1 _ _ (hrows j hj));symm;exact q'
   have hri2:=s2 _ _ hri;have hb2:=s2.seq hb1;symm;rw [ei];symm;rw [z2];refine zbk (fun h1=>?_) (fun h1=>?_)
   ·rw [zcY (c:=fun k=>decide ((cntB rows (0+(k:Int)+1):Int)≤(rs.getD k []).getD 1 0)) (show i < rs.length by omega) (decide_eq_false (show ¬(cntB rows (0+(i:Int)+1):Int)≤(rs.getD i []).getD 1 0 by have e1:Int.toNat 1=1:=rfl;rw [e1] at h1;omega))] at q;symm;exact q _ (s1.trans s2)
   ·symm;refine ⟨_,rfl,s1.trans s2,fun k hk=>?_⟩
    by_cases e:k=i
    ·subst e;have e1:Int.toNat 1=1:=rfl;rw [e1] at h1;omega
    ·exact hle k (by omega)
  ·rintro σ H1 ⟨_,rfl,s1,hle⟩;rw [zbg (c:=fun k=>decide ((cntB rows (0+(k:Int)+1):Int)≤(rs.getD k []).getD 1 0)) (fun k hk=>decide_eq_true (hle k (by omega)))] at q;symm;exact q _ s1
theorem zhB {H:Hp} {a b c:Addr} {hs:List Int} {rs rows:LI} {Q:VK} {E:XK} (h1:SqL K H a (hs.map V.int)) (h2:LL K H b rs) (h3:∀ i,i < rs.length→(rs.getD i []).length=2) (h4:∃ zs,H c=some (.lst zs)) (h5:LL K H c rows) (l1:rs.length≤1000) (l2:rows.length≤1000) (l3:hs.length≤1000)
  (q:∀ H',Same H H'→Q (.bl (zaW hs rs rows)) H'):zel K [.ref a,.ref b,.ref c] H Q E:=⟨rfl,a,b,c,hs,rs,rows,rfl,h1,h2,h3,h4,h5,l1,l2,l3,q⟩
def zdV (K:PySem.W.Frag):Sp:=fun vs H Q _=>vs.length=3∧∃ (c st:Int) (a:Addr) (gs:List (Option Int)),vs=[.int c,.int st,.ref a]∧SqL K H a (gs.map encO)∧gs.length≤1000∧∀ H',Same H H'→Q (.int (ptsB c st gs)) H'
theorem zga (T:Txt K mg t):FnOk P w K mg base CX0 1 t.f_62 t.d_62 ["_law_cell","_law_step_here","_law_given_here"] (zdV K):=by
 refine T.F_62.ok sc_62 (fun _ _ _ _ h=>h.1) fun cdv A outer s H vs Q E hr h=>by
  refine ⟨_,(zab (zax (i:=3) sc_62.nd rfl (Or.inl rfl) (zat (op_mod) (pv 0) zad))
   (zab (zbD (i:=4) sc_62.nd rfl (Or.inl rfl) (by rfl) (zaq (sc:=zac s_62) (XN:=["_law_cell","_law_step_here","_law_given_here","_law_points_here","_law_known","_law_edge"]) (N:=["_law_one"]) (own:=1) (js:=[]) rfl rfl (by decide +kernel)) rfl (zaI (K:=K) rfl (pv 2)) (fun _ _ _ _ _=>(zar (i:=0) (show List.Nodup [(Str.ofString "_law_one")] by decide +kernel) rfl (Or.inl rfl))) (fun _ _ _ _ _=>(zcp (zap (op_notNN) (pv 0) zbW (zay _)))) (fun _ _ _ _ _=>(pv 0)))
   (zab (zaS (zeF (zap (zbF (K:=K) rfl hr.units0) (zat (op_mod) (zat (op_fdivB) (pv 0) zad) zad) zad (zay _)) (zdu (zap (zbF (K:=K) rfl hr.units0) (zag (zai (K:=K) rfl) (by rfl) T.z_len (by rfl) (zaa (pv 4) pa_nil)) zad (zay _)))).pt
   (zab (zax (i:=5) sc_62.nd rfl (Or.inl rfl) (zat (op_addG) (zas (zaf (K:=K) rfl) (pv 4) zad (fun _ _=>rfl)) (zas (zaf (K:=K) rfl) (zaN (zaa (pv 1) (zaa (zat (op_sub) zad (pv 1)) (zaa (zat (op_addG) (pv 1) zad) (zaa (zat (op_sub) (zat (op_sub) zad (pv 1)) zad) pa_nil))))) (zat (op_mod) (zat (op_fdivB) (pv 0) zad) zad) (fun _ _=>rfl))))
   (zae (zaS (zeF (zap (op_le) zad (pv 5) (zay _)) (zdu (zap (op_le) (pv 5) zad (zay _)))).pt
   (zae (zax (i:=3) sc_62.nd rfl (Or.inl rfl) (pv 5))) pss_nil))) pss_nil)
   (zae (zak (pv 3)))))),?_⟩
  obtain ⟨_,c,st,a,gs,rfl,ha,hz,q⟩:=h;symm;refine zaT ha ?_;refine zgy ha (by rw [length_map];exact hz) (fun x=>!decide (x=V.non)) (fun i H' Q' hi s q'=>?_) fun p1 H1 f1 s1 e1=>?_
  ·symm;exact q'
  rw [ziA] at e1;unfold ptsB at q;generalize hk:gs.filterMap id=ks at e1 q;symm;refine zbk (fun h0=>?_) (fun h0=>?_)
  ·symm;refine zbk (fun h1=>?_) (fun h1=>?_)
   ·symm;refine zau (by simp) fun p2 H2 f2 s2 e2=>?_;symm;refine zeL (SqL.of e2) (zdg (ns:=[st,0-st,st+1,0-st-1]) (by omega) (by simp only [length_cons,length_nil];omega)) ?_;symm;have ek:ks.getD (Int.toNat 0) 0+([st,0-st,st+1,0-st-1]:List Int).getD (c / 303 % 4).toNat 0=zkR c st (ks.getD 0 0):=rfl;rw [ek];refine zbk (fun h2=>?_) (fun h2=>?_)
    ·symm;refine zbk (fun h3=>?_) (fun h3=>?_)
     ·rw [if_pos ⟨h0,by omega,h2,h3⟩] at q;symm;exact q _ (s1.trans s2)
     ·rw [if_neg (fun z=>h3 z.2.2.2)] at q;symm;exact q _ (s1.trans s2)
    ·rw [if_neg (fun z=>h2 z.2.2.1)] at q;refine iteF ?_;symm;exact q _ (s1.trans s2)
   ·rw [if_neg (fun z=>h1 (by omega))] at q;symm;exact q _ s1
  ·rw [if_neg (fun z=>h0 z.1)] at q;refine iteF ?_;symm;exact q _ s1
theorem zgS {H:Hp} {c st:Int} {a:Addr} {gs:List (Option Int)} {Q:VK} {E:XK} (h:SqL K H a (gs.map encO)) (hz:gs.length≤1000) (q:∀ H',Same H H'→Q (.int (ptsB c st gs)) H'):zdV K [.int c,.int st,.ref a] H Q E:=⟨rfl,c,st,a,gs,rfl,h,hz,q⟩
def zem (K:PySem.W.Frag):Sp:=fun vs H Q _=>vs.length=3∧∃ (a:Addr) (ns:List Int) (s n:Int),vs=[.ref a,.int s,.int n]∧SqL K H a (ns.map V.int)∧ns.length≤63∧0≤n∧n≤10∧∀ p H' (tab:LI),RowsAt H p tab H'→(tab.length:Int)=n→(∀ i,i < tab.length→(tab.getD i []).length=3∧∀ x∈tab.getD i [],0≤x∧x≤100)→Q (.ref p) H'
theorem zgT (T:Txt K mg t):FnOk P w K mg base CX0 2 t.f_65 t.d_65 ["_law_script","_law_step_here","_law_many"] (zem K):=by
 have G_47:=ze3 (P:=P) (w:=w) (base:=base) T;have G_62:=zga (P:=P) (w:=w) (base:=base) T;refine T.F_65.ok sc_65 (fun _ _ _ _ h=>h.1) fun cdv A outer s H vs Q E hr h=>by
  refine ⟨_,(zab (zax (i:=3) sc_65.nd rfl (Or.inl rfl) (zaN pa_nil))
   (zab (za2 PassesOwn.never rfl (zaX (by rfl) T.z_range (zaa (pv 2) pa_nil)) (zar (i:=4) sc_65.nd rfl (Or.inl rfl))
   (zab (zax (i:=5) sc_65.nd rfl (Or.inl rfl) (zal G_47 (hr.mono (by decide)) (by rfl) T.m_47 T.F_47.kp T.b_47 .nil zav (zaa (pv 0) (zaa (zat (op_addG) zad (pv 4)) pa_nil))))
   (zab (zax (i:=6) sc_65.nd rfl (Or.inl rfl) (zat (op_mod) (pv 5) zad))
   (zab (zax (i:=7) sc_65.nd rfl (Or.inl rfl) (zal G_62 (hr.mono (by decide)) (by rfl) T.m_62 T.F_62.kp T.b_62 .nil zav (zaa (zat (op_fdivB) (pv 5) zad) (zaa (pv 1) (zaa (zaN (zaa (pv 6) pa_nil)) pa_nil)))))
   (zae (zaK (zbK (K:=K) rfl PySem.F.plainAttrs_list PySem.F.slot_list_append PySem.F.type_list_append mt_append (pv 3) (zaa (zaN (zaa (pv 6) (zaa (pv 7) (zaa (zat (op_mod) (zat (op_fdivB) (pv 5) zad) zad) pa_nil)))) pa_nil))))))))
   (zae (zak (pv 3))))),?_⟩
  obtain ⟨_,a,ns,s,n,rfl,hS,hl,n0,n1,q⟩:=h;symm;refine zau (by decide) fun p1 H1 f1 s1 e1=>?_;symm;refine zb3 (by omega) (by omega) ?_;refine zb8 (fun i σ H'=>∃ (tab:LI) (v4 v5 v6 v7:Option V),σ=[some (.ref a),some (.int s),some (.int n),some (.ref p1),v4,v5,v6,v7]∧RowsAt H p1 tab H'∧tab.length=i∧∀ i,i < tab.length→(tab.getD i []).length=3∧∀ x∈tab.getD i [],0≤x∧x≤100) ⟨[],none,none,none,none,rfl,RowsAt.start f1 s1 e1,rfl,fun i hi=>absurd hi (by simp)⟩ ?_ ?_
  ·rintro i σ H' hi ⟨tab,v4,v5,v6,v7,rfl,R,htl,hb⟩;have hS':=R.same.seq hS;obtain ⟨zs,hz,hzl⟩:=R.lst;symm;generalize zbz ns (21+(0+(i:Int)))=c;refine zau (by simp) fun p2 H2 f2 s2 e2=>?_;have e2:H2 p2=some (.lst (([some (c % 101)]:List (Option Int)).map encO)):=e2;symm;refine zgS (SqL.of e2) (by simp) fun H3 s3=>?_;have hpt:=zkS (c / 101) s [some (c % 101)];generalize ptsB (c / 101) s [some (c % 101)]=pt at *;have R3:=R.mono (s2.trans s3);have hz3:=(s2.trans s3) _ _ hz;symm;refine zau (by simp) fun p4 H4 f4 s4 e4=>?_;have hz4:=s4 _ _ hz3;symm;refine zaM hz4 (by omega) fun H5 b5 e5=>?_;symm;refine ⟨tab++[[c % 101,pt,c / 122412 % 101]],_,_,_,_,rfl,R3.push (r:=[c % 101,pt,c / 122412 % 101]) f4 s4 e4 hz4 b5 e5,by rw [length_append,length_singleton,htl],fun j hj=>?_⟩;rw [length_append,length_singleton] at hj
   by_cases e:j < tab.length
   ·rw [zaB e];exact hb j e
   ·have e:j=tab.length:=by omega
    subst e;rw [zaC];refine ⟨rfl,fun x hx=>?_⟩;simp only [mem_cons,not_mem_nil,or_false] at hx;rcases hx with rfl | rfl | rfl
    ·omega
    ·exact hpt
    ·omega
  ·rintro σ H' ⟨tab,v4,v5,v6,v7,rfl,R,htl,hb⟩;symm;exact q p1 H' tab R (by omega) hb
theorem zhC {H:Hp} {a:Addr} {ns:List Int} {s n:Int} {Q:VK} {E:XK} (hS:SqL K H a (ns.map V.int)) (hl:ns.length≤63) (n0:0≤n) (n1:n≤10) (q:∀ p H' (tab:LI),RowsAt H p tab H'→(tab.length:Int)=n→(∀ i,i < tab.length→(tab.getD i []).length=3∧∀ x∈tab.getD i [],0≤x∧x≤100)→Q (.ref p) H'):zem K [.ref a,.int s,.int n] H Q E:=⟨rfl,a,ns,s,n,rfl,hS,hl,n0,n1,q⟩
def zen (K:PySem.W.Frag):Sp:=fun vs H Q _=>vs.length=3∧∃ (a b:Addr) (k:Int) (nm en:LI),vs=[.ref a,.ref b,.int k]∧LL K H a nm∧LL K H b en∧1≤k∧k≤nm.length∧(∀ i,i < en.length→(en.getD i []).length=3)∧(nm.getD (k-1).toNat []).length≤1000∧∀ p H',H p=none→Same H H'→H' p=some (.lst ((zb1 nm en (k-1).toNat).map encO))→Q (.ref p) H'
theorem zdc (T:Txt K mg t):FnOk P w K mg base CX0 1 t.f_56 t.d_56 ["_law_names","_law_entries","_law_paper"] (zen K):=by
 refine T.F_56.ok sc_56 (fun _ _ _ _ h=>h.1) fun cdv A outer s H vs Q E hr h=>by
  refine ⟨_,(zab (zax (i:=3) sc_56.nd rfl (Or.inl rfl) (zaN pa_nil))
   (zab (za2 PassesOwn.never rfl (zaI (K:=K) rfl (zas (zaf (K:=K) rfl) (pv 0) (zat (op_sub) (pv 2) zad) (fun _ _=>rfl))) (zar (i:=4) sc_56.nd rfl (Or.inl rfl))
   (zab (zax (i:=5) sc_56.nd rfl (Or.inl rfl) zbW)
   (zab (za2 PassesOwn.never rfl (zaI (K:=K) rfl (pv 1)) (zar (i:=6) sc_56.nd rfl (Or.inl rfl))
   (zae (zaS (zeF (zap (zbF (K:=K) rfl hr.units0) (zas (zaf (K:=K) rfl) (pv 6) zad (fun _ _=>rfl)) (pv 2) (zay _)) (zdu (zap (zbF (K:=K) rfl hr.units0) (zas (zaf (K:=K) rfl) (pv 6) zad (fun _ _=>rfl)) (pv 4) (zay _)))).pt
   (zae (zax (i:=5) sc_56.nd rfl (Or.inl rfl) (zas (zaf (K:=K) rfl) (pv 6) zad (fun _ _=>rfl)))) pss_nil)))
   (zae (zaK (zbK (K:=K) rfl PySem.F.plainAttrs_list PySem.F.slot_list_append PySem.F.type_list_append mt_append (pv 3) (zaa (pv 5) pa_nil)))))))
   (zae (zak (pv 3))))),?_⟩
  obtain ⟨_,a,b,k,nm,en,rfl,LA,LB,k1,k2,e3,rl,q⟩:=h;obtain ⟨ps,ha,hla,hra⟩:=id LA;obtain ⟨es,hb,hlb,hrb⟩:=id LB;have hk:(k-1).toNat < nm.length:=by omega
  have hrow:=hra _ hk;symm;refine zau (by decide) fun p1 H1 f1 s1 e1=>?_;have ha1:=s1.seq ha;have hrow1:=s1 _ _ hrow;symm;refine zaT (SqL.of hrow1) ?_;refine zbL (xs:=(nm.getD (k-1).toNat []).map V.int) (fun i σ H'=>(∃ v4 v5 v6,σ=[some (.ref a),some (.ref b),some (.int k),some (.ref p1),v4,v5,v6])∧Same H H'∧H' p1=some (.lst (((zb1 nm en (k-1).toNat).take i).map encO))) ⟨⟨none,none,none,rfl⟩,s1,e1⟩ ?_ ?_ ?_
  ·rintro i σ H' _ ⟨_,s,_⟩;exact SqL.of (s _ _ hrow)
  ·rintro i y σ H' hy ⟨⟨v4,v5,v6,rfl⟩,s,ep⟩;obtain ⟨hi,rfl⟩:=zcq hy;have hbs:=s.seq hb;walk_at "st";refine zjG ?_;walk_at "st";refine zdw (fun σ H2=>(∃ v6,σ=[some (.ref a),some (.ref b),some (.int k),some (.ref p1),some (.int ((nm.getD (k-1).toNat []).getD i 0)),some (encO (zaE en (k-1).toNat ((nm.getD (k-1).toNat []).getD i 0))),v6])∧H2=H') ?_ ?_
   ·intro nx' hnx;symm;refine zaT hbs ?_;refine zbL (xs:=es.map V.ref) (fun j σ H2=>(∃ v6,σ=[some (.ref a),some (.ref b),some (.int k),some (.ref p1),some (.int ((nm.getD (k-1).toNat []).getD i 0)),some (encO (zaE (en.take j) (k-1).toNat ((nm.getD (k-1).toNat []).getD i 0))),v6])∧H2=H') ⟨⟨v6,rfl⟩,rfl⟩ ?_ ?_ ?_
    ·rintro j σ H2 _ ⟨_,rfl⟩;exact hbs
    ·rintro j y σ H2 hy ⟨⟨v6',rfl⟩,rfl⟩;obtain ⟨hj,rfl⟩:=zfU hy;have hj':j < en.length:=by omega
     have hent:=s _ _ (hrb j hj');have hl3:=e3 j hj';have et:en.take (j+1)=en.take j++[en.getD j []]:=by rw [take_add_one,getElem?_eq_getElem hj',getD_eq_getElem?_getD,getElem?_eq_getElem hj'];rfl
     have ek:(((k-1).toNat:Int))+1=k:=by omega
     have es':=zbR (en.take j) (en.getD j []) (k-1).toNat ((nm.getD (k-1).toNat []).getD i 0);rw [← et,ek] at es';symm;refine zbk (fun g1=>?_) (fun g1=>?_)
     ·symm;refine zbk (fun g2=>?_) (fun g2=>?_)
      ·symm;exact ⟨⟨some (.ref (es.getD j 0)),by rw [es',if_pos ⟨g1,g2⟩];rfl⟩,rfl⟩
      ·symm;exact ⟨⟨some (.ref (es.getD j 0)),by rw [es',if_neg (fun z=>g2 z.2)];rfl⟩,rfl⟩
     ·refine iteF ?_;symm;exact ⟨⟨some (.ref (es.getD j 0)),by rw [es',if_neg (fun z=>g1 z.1)];rfl⟩,rfl⟩
    ·rintro σ H2 ⟨⟨v6',rfl⟩,rfl⟩;rw [length_map,hlb,take_length];exact hnx _ _ ⟨⟨_,rfl⟩,rfl⟩
   ·rintro σ H2 ⟨⟨v6',rfl⟩,rfl⟩;have hg:=zc7 nm en (k-1).toNat;symm;refine zaM ep (by rw [length_map,length_take];omega) fun H3 b3 e3'=>?_;symm;refine ⟨⟨_,_,_,rfl⟩,s.but b3 f1,?_⟩;rw [e3',take_add_one,getElem?_eq_getElem (by omega),map_append];have hga:=zia (nm:=nm) (en:=en) (k:=(k-1).toNat) (j:=i) hi;rw [getD_eq_getElem?_getD,getElem?_eq_getElem (by omega)] at hga;have hga':(zb1 nm en (k-1).toNat)[i]'(by omega)=zaE en (k-1).toNat ((nm.getD (k-1).toNat []).getD i 0):=hga;rw [hga'];rfl
  ·rintro σ H' ⟨⟨v4,v5,v6,rfl⟩,s,ep⟩;rw [length_map,← zc7 nm en,take_length] at ep;symm;exact q p1 H' f1 s ep
theorem zdC {H:Hp} {a b:Addr} {k:Int} {nm en:LI} {Q:VK} {E:XK} (h1:LL K H a nm) (h2:LL K H b en) (k1:1≤k) (k2:k≤nm.length) (h3:∀ i,i < en.length→(en.getD i []).length=3) (h4:(nm.getD (k-1).toNat []).length≤1000) (q:∀ p H',H p=none→Same H H'→H' p=some (.lst ((zb1 nm en (k-1).toNat).map encO))→Q (.ref p) H'):zen K [.ref a,.ref b,.int k] H Q E:=⟨rfl,a,b,k,nm,en,rfl,h1,h2,k1,k2,h3,h4,q⟩
def zdt (K:PySem.W.Frag):Sp:=fun vs H Q _=>vs.length=2∧∃ (a b:Addr) (nm en:LI) (n:Nat),vs=[.ref a,.ref b]∧LL K H a nm∧LL K H b en∧nm.length≤10∧(∀ i,i < en.length→(en.getD i []).length=3)∧(∀ k,k < nm.length→zcT n en k (nm.getD k []))∧∀ p H',RowsAt H p (dueB nm en) H'→Q (.ref p) H'
theorem zfr (T:Txt K mg t):FnOk P w K mg base CX0 2 t.f_57 t.d_57 ["_law_names","_law_entries"] (zdt K):=by
 have G_56:=zdc (P:=P) (w:=w) (base:=base) T;refine T.F_57.ok sc_57 (fun _ _ _ _ h=>h.1) fun cdv A outer s H vs Q E hr h=>by
  refine ⟨_,(zab (zax (i:=2) sc_57.nd rfl (Or.inl rfl) (zaN pa_nil))
   (zab (za2 PassesOwn.never rfl (zaX (by rfl) T.z_range (zaa (zag (zai (K:=K) rfl) (by rfl) T.z_len (by rfl) (zaa (pv 0) pa_nil)) pa_nil)) (zar (i:=3) sc_57.nd rfl (Or.inr rfl))
   (zab (zax (i:=4) sc_57.nd rfl (Or.inr rfl) (zal G_56 (hr.mono (by decide)) (by rfl) T.m_56 T.F_56.kp T.b_56 .nil zav (zaa (pv 0) (zaa (pv 1) (zaa (zat (op_addG) (pv 3) zad) pa_nil)))))
   (zab (zbD (i:=5) sc_57.nd rfl (Or.inl rfl) (by rfl) (zaq (sc:=zac s_57) (XN:=["_law_names","_law_entries","_law_rows_here","_law_k","_law_given_here","_law_wanted","_law_reader"]) (N:=["_law_j","_law_names","_law_k","_law_given_here"]) (own:=1) (js:=[0,3,4]) rfl rfl (by decide +kernel)) rfl (zaX (by rfl) T.z_range (zaa (zag (zai (K:=K) rfl) (by rfl) T.z_len (by rfl) (zaa (pv 4) pa_nil)) pa_nil)) (fun _ _ _ _ _=>(zar (i:=0) (show List.Nodup [(Str.ofString "_law_j"),(Str.ofString "_law_names"),(Str.ofString "_law_k"),(Str.ofString "_law_given_here")] by decide +kernel) rfl (Or.inl rfl))) (fun _ _ _ _ _=>(zcp (zap (op_isNN) (zas (zaf (K:=K) rfl) (pv 3) (pv 0) (fun _ _=>rfl)) zbW (zay _)))) (fun _ _ _ _ _=>(zas (zaf (K:=K) rfl) (zas (zaf (K:=K) rfl) (pv 1) (pv 2) (fun _ _=>rfl)) (pv 0) (fun _ _=>rfl))))
   (zae (za2 PassesOwn.never rfl (zaI (K:=K) rfl (zag (zef (K:=K) rfl) (by rfl) T.z_sorted (by rfl) (zaa (pv 5) pa_nil))) (zar (i:=6) sc_57.nd rfl (Or.inl rfl))
   (zae (zaK (zbK (K:=K) rfl PySem.F.plainAttrs_list PySem.F.slot_list_append PySem.F.type_list_append mt_append (pv 2) (zaa (zaN (zaa (zat (op_addG) (pv 3) zad) (zaa (pv 6) pa_nil))) pa_nil)))))))))
   (zae (zak (pv 2))))),?_⟩
  obtain ⟨_,a,b,nm,en,n,rfl,LA,LB,l10,e3,hro,q⟩:=h;obtain ⟨ps,ha,hla,hra⟩:=id LA;symm;refine zau (by decide) fun p1 H1 f1 s1 e1=>?_;have ha1:=s1.seq ha;symm;refine zb3 (by omega) (by omega) ?_;have en':((ps.length:Int)).toNat=nm.length:=by omega
  rw [en'];refine zb8 (fun i σ H'=>(∃ v3 v4 v5 v6,σ=[some (.ref a),some (.ref b),some (.ref p1),v3,v4,v5,v6])∧RowsAt H p1 ((List.range i).flatMap fun k=>(zaF nm en k).map fun r=>[(k:Int)+1,r]) H'∧((List.range i).flatMap fun k=>(zaF nm en k).map fun r=>[(k:Int)+1,r]).length≤3 * i) ⟨⟨none,none,none,none,rfl⟩,RowsAt.start f1 s1 e1,by simp⟩ ?_ ?_
  ·rintro i σ H' hi ⟨⟨v3,v4,v5,v6,rfl⟩,R,hlen⟩;have s:=R.same;have hro':=hro i hi;have hlr:=hro'.len;have hw:=zhn nm en i;have e0:(0:Int)+(i:Int)=(i:Int):=by omega
   have ek:((i:Int)+1-1).toNat=i:=by omega
   rw [e0];symm;refine zdC (LA.same s) (LB.same s) (by omega) (by omega) e3 (by rw [ek];omega) fun p2 H2 f2 s2 e2=>?_;rw [ek] at e2;have hg:=zc7 nm en i;have s02:=s.trans s2;have ha2:=s02.seq ha;symm;refine zb3 (by rw [length_map];omega) (by rw [length_map];omega) ?_;have en2:((((zb1 nm en i).map encO).length:Nat):Int).toNat=(zb1 nm en i).length:=by rw [length_map];omega
   rw [en2];refine zeP (zbE _ _ _) (by omega) (fun j=>((zb1 nm en i).getD j none).isNone) (fun j=>(nm.getD i []).getD j 0) (fun j H3 Q' hj s3 q'=>?_) (fun j H3 Q' hj s3 hc q'=>?_) fun p3 H3 f3 s3 e3'=>?_
   ·have e2':=s3 _ _ e2;symm;refine zeL (SqL.of e2') (zmm (by omega) (by omega)) ?_;symm;have ej:(0+(j:Int)).toNat=j:=by omega
    rw [ej,zmn];exact q'
   ·have ha3:=s3.seq ha2;have hrow3:=s3 _ _ (s02 _ _ (hra i hi));symm;have ej:(0+(j:Int)).toNat=j:=by omega
    rw [ej];exact q'
   ·rw [zj9] at e3';have s03:=s02.trans s3;symm;refine zeS (SqL.of e3') (by omega) fun ns' hp hs p4 H4 f4 s4 e4=>?_;have eq:=zka hp hs hro'.sorted;subst eq;have R4:RowsAt H p1 ((List.range i).flatMap fun k=>(zaF nm en k).map fun r=>[(k:Int)+1,r]) H4:=R.mono ((s2.trans s3).trans s4);refine zaT (SqL.of e4) ?_;refine zbL (xs:=(zaF nm en i).map V.int) (fun j σ H'=>(∃ v4 v5 v6,σ=[some (.ref a),some (.ref b),some (.ref p1),some (.int (i:Int)),v4,v5,v6])∧RowsAt H p1 (((List.range i).flatMap fun k=>(zaF nm en k).map fun r=>[(k:Int)+1,r])++((zaF nm en i).take j).map fun r=>[(i:Int)+1,r]) H'∧H' p4=some (.lst ((zaF nm en i).map V.int))) ⟨⟨_,_,_,rfl⟩,by simpa using R4,e4⟩ ?_ ?_ ?_
    ·rintro j σ H5 _ ⟨_,_,e5⟩;exact SqL.of e5
    ·rintro j y σ H5 hy ⟨⟨w4,w5,w6,rfl⟩,R5,e5⟩;obtain ⟨hj,rfl⟩:=zcq hy;obtain ⟨zs5,z5,zl5⟩:=R5.lst;have np4:p4≠p1:=fun z=>by
      obtain ⟨zs4,z4,_⟩:=R4.lst;have:=R.lst;obtain ⟨zs0,z0,_⟩:=this;rw [z] at f4;rw [(s2.trans s3) _ _ z0] at f4
      cases f4
     symm;refine zau (by simp) fun p6 H6 f6 s6 e6=>?_;symm;refine zaM (s6 _ _ z5) (by rw [zl5,length_append,length_map,length_take];omega) fun H7 b7 e7=>?_;symm;refine ⟨⟨_,_,_,rfl⟩,?_,by rw [b7 _ np4];exact s6 _ _ e5⟩;have R7:=R5.push (r:=[(i:Int)+1,(zaF nm en i).getD j 0]) f6 s6 e6 (s6 _ _ z5) b7 e7;have et:(zaF nm en i).take (j+1)=(zaF nm en i).take j++[(zaF nm en i).getD j 0]:=by rw [take_add_one,getElem?_eq_getElem hj,getD_eq_getElem?_getD,getElem?_eq_getElem hj];rfl
     rw [et,map_append,← append_assoc];exact R7
    ·rintro σ H5 ⟨⟨w4,w5,w6,rfl⟩,R5,e5⟩;rw [length_map,take_length] at R5;refine ⟨⟨_,_,_,_,rfl⟩,?_,?_⟩
     ·rw [zc6 _ _ _ hi];exact R5
     ·rw [zc6 _ _ _ hi,length_append,length_map];omega
  ·rintro σ H' ⟨⟨v3,v4,v5,v6,rfl⟩,R,_⟩;symm;exact q p1 H' R
theorem zgb {H:Hp} {a b:Addr} {nm en:LI} {n:Nat} {Q:VK} {E:XK} (h1:LL K H a nm) (h2:LL K H b en) (l10:nm.length≤10) (h3:∀ i,i < en.length→(en.getD i []).length=3) (h4:∀ k,k < nm.length→zcT n en k (nm.getD k [])) (q:∀ p H',RowsAt H p (dueB nm en) H'→Q (.ref p) H'):zdt K [.ref a,.ref b] H Q E:=⟨rfl,a,b,nm,en,n,rfl,h1,h2,l10,h3,h4,q⟩
end
end Prf
namespace Prf
open PySem PySem.Spec PyProof.Rows L2
section
variable {P:Program} {w:World} {K:PySem.W.Frag} {mg:Str→Option Value} {base:Heap} {t:Adr}
local macro_rules | `(tactic| walk_at "rd1")=>`(tactic| ((with_reducible refine' zii ?h1 ?h2 ?_);(case h1=>walk_at "hp");(case h2=>omega)))
local macro_rules | `(tactic| walk_at "rd1")=>`(tactic| (with_reducible refine ze7 ?_))
local macro_rules | `(tactic| walk_at "rd1")=>`(tactic| (with_reducible refine zfe ?_))
def zfi (K:PySem.W.Frag):Sp:=fun vs H Q _=>vs.length=4∧∃ (tb d o:Addr) (stp:Int) (tab en:LI) (k:Nat) (r:Int),vs=[.int stp,.ref tb,.ref d,.ref o]∧LL K H tb tab∧(∀ i,i < tab.length→(tab.getD i []).length=3)∧LL K H d en∧(∀ i,i < en.length→(en.getD i []).length=3)∧en.length≤1000∧H o=some (.lst [.int ((k:Int)+1),.int r])∧k < tab.length∧tab.length≤10∧∀ H',Same H H'→Q (.bl (zbS (apT (fun k=>tab.getD k []) stp) en k)) H'
theorem zhD (T:Txt K mg t):FnOk P w K mg base CX0 1 t.f_66 t.d_66 ["_law_step_here","_law_table_here","_law_entries","_law_one"] (zfi K):=by
 refine T.F_66.ok sc_66 (fun _ _ _ _ h=>h.1) fun cdv A outer s H vs Q E hr h=>by
  refine ⟨_,(zab (zax (i:=4) sc_66.nd rfl (Or.inl rfl) (zas (zaf (K:=K) rfl) (pv 1) (zat (op_sub) (zas (zaf (K:=K) rfl) (pv 3) zad (fun _ _=>rfl)) zad) (fun _ _=>rfl)))
   (zab (zbD (i:=5) sc_66.nd rfl (Or.inl rfl) (by rfl) (zaq (sc:=zac s_66) (XN:=["_law_step_here","_law_table_here","_law_entries","_law_one","_law_two","_law_known"]) (N:=["_law_row_here","_law_one"]) (own:=1) (js:=[3]) rfl rfl (by decide +kernel)) rfl (zaI (K:=K) rfl (pv 2)) (fun _ _ _ _ _=>(zar (i:=0) (show List.Nodup [(Str.ofString "_law_row_here"),(Str.ofString "_law_one")] by decide +kernel) rfl (Or.inl rfl))) (fun _ _ _ _ _=>(zcp (zap (zbF (K:=K) rfl hr.units0) (zas (zaf (K:=K) rfl) (pv 0) zad (fun _ _=>rfl)) (zas (zaf (K:=K) rfl) (pv 1) zad (fun _ _=>rfl)) (zay _)))) (fun _ _ _ _ _=>(pv 0)))
   (zae (zak (zgi (zb7 (zbF (K:=K) rfl hr.units0) (zag (zai (K:=K) rfl) (by rfl) T.z_len (by rfl) (zaa (pv 5) pa_nil)) zad (zay _)) (zfs (zb7 (op_gt) (zag (call_abs) (by rfl) T.z_abs (by rfl) (zaa (zat (op_sub) (zas (zaf (K:=K) rfl) (pv 4) zad (fun _ _=>rfl)) (zas (zaf (K:=K) rfl) (pv 4) zad (fun _ _=>rfl))) pa_nil)) (pv 0) (zay _)))))))),?_⟩
  obtain ⟨_,tb,d,o,stp,tab,en,k,r,rfl,LT,ht3,LD,e3,hen,eo,hk,ht10,q⟩:=h;obtain ⟨pt,ht1,ht2,htr⟩:=id LT;have htk:=htr k hk;have h3:=ht3 k hk;have ek:((k:Int)+1-1).toNat=k:=by omega
  obtain ⟨pn,hn',ln',rn'⟩:=id LD;symm;rw [ek];symm;refine zaT hn' ?_;refine zlg (fun row=>decide (row.getD 0 0=(k:Int)+1)) hn' ln' (by omega) (fun i' H2 Q' hi' s2 q'=>?_) fun p2 H2 zs' f2 s2 e2 ez=>?_
  ·have hrw2:=s2 _ _ (rn' i' hi');have h3r:=e3 i' hi';have hrow2:=s2 _ _ eo;symm;exact q'
  have hkn:zs'.length=inOf en k:=ez;have htk2:=s2 _ _ htk;have q2:=q _ s2;unfold zbS at q2;have hb:decide (stp < (if (tab.getD k []).getD 0 0-(tab.getD k []).getD 1 0 < 0 then -((tab.getD k []).getD 0 0-(tab.getD k []).getD 1 0) else (tab.getD k []).getD 0 0-(tab.getD k []).getD 1 0))=apT (fun k=>tab.getD k []) stp k:=by
   show _ = !zbm ((tab.getD k []).getD 0 0) ((tab.getD k []).getD 1 0) stp;unfold zbm;rw [Bool.eq_iff_iff,decide_eq_true_iff,Bool.not_eq_true',decide_eq_false_iff_not];split <;> omega
  symm
  by_cases h1:inOf en k=1
  ·rw [decide_eq_true h1,Bool.true_and,← hb] at q2;refine zbk (fun _=>?_) (fun z=>absurd (by omega) z);symm;refine ⟨_,rfl,?_⟩;symm;exact q2
  ·rw [decide_eq_false h1,Bool.false_and] at q2;refine zbk (fun z=>absurd z (by omega)) (fun _=>?_);symm;exact q2
theorem zfL {H:Hp} {tb d o:Addr} {stp:Int} {tab en:LI} (k:Nat) (r:Int) {Q:VK} {E:XK} (LT:LL K H tb tab) (ht3:∀ i,i < tab.length→(tab.getD i []).length=3) (LD:LL K H d en) (e3:∀ i,i < en.length→(en.getD i []).length=3) (hen:en.length≤1000) (eo:H o=some (.lst [.int ((k:Int)+1),.int r])) (hk:k < tab.length) (ht10:tab.length≤10) (q:∀ H',Same H H'→Q (.bl (zbS (apT (fun k=>tab.getD k []) stp) en k)) H'):zfi K [.int stp,.ref tb,.ref d,.ref o] H Q E:=⟨rfl,tb,d,o,stp,tab,en,k,r,rfl,LT,ht3,LD,e3,hen,eo,hk,ht10,q⟩
def za8 (K:PySem.W.Frag) (C:Addr):Sp:=fun vs H Q _=>vs.length=1∧∃ (x:Addr) (F:Addr→Prop) (st:ExS),vs=[.ref x]∧ExAt C H x F st∧st.dl.isSome=true∧Q .non H
theorem zbU (T:Txt K mg t):FnOk P w K mg base CX0 1 t.f_40 t.d_40 ["self"] (za8 K t.C_Exam):=by
 refine T.F_40.ok sc_40 (fun _ _ _ _ h=>h.1) fun cdv A outer s H vs Q E hr h=>by
  refine ⟨_,(zae (zaS (zbd (zaw (K:=K) rfl (zaG (K:=K) rfl (pv 0)) (fun _=>rfl)))
   (zae ps_never) pss_nil)),?_⟩
  obtain ⟨_,x,F,st,rfl,E0,hd,q⟩:=h;walk_at "hd";symm;rw [hd];refine iteF ?_;symm;exact q
theorem zdD {K:PySem.W.Frag} {C x:Addr} {H:Hp} {F:Addr→Prop} {st:ExS} {Q:VK} {E:XK} {σ:L2.St} (h:ExAt C H x F st) (hd:st.dl.isSome=true) (q:Q .non H):zbp C "refuse_ahead_of_dealing" (za8 K C) E tNil σ (.ref x) H Q:=by
 obtain ⟨dx,fs,e,l⟩:=h.ob;exact zaO e (l _ (by decide +kernel)) (zes ⟨rfl,x,F,st,rfl,h,hd,q⟩)
def zbA (K:PySem.W.Frag) (C:Addr):Sp:=fun vs H Q _=>vs.length=2∧∃ (x:Addr) (F:Addr→Prop) (st:ExS) (k:Int),vs=[.ref x,.int k]∧ExAt C H x F st∧InB st.hs st.rs∧1≤k∧k≤st.nm.length∧(∀ p H',H p=none→Same H H'→H' p=some (.lst ((zaF st.nm st.en (k-1).toNat).map V.int))→Q (.ref p) H')
theorem zbc (T:Txt K mg t):FnOk P w K mg base CX0 1 t.f_42 t.d_42 ["self","paper"] (zbA K t.C_Exam):=by
 refine T.F_42.ok sc_42 (fun _ _ _ _ h=>h.1) fun cdv A outer s H vs Q E hr h=>by
  refine ⟨_,(zab (zax (i:=2) sc_42.nd rfl (Or.inr rfl) (zas (zaf (K:=K) rfl) (zaG (K:=K) rfl (pv 0)) (zat (op_sub) (pv 1) zad) (fun _ _=>rfl)))
   (zae (zak (zba (zaq (sc:=zac s_42) (XN:=["self","paper","entered"]) (N:=["reader","entered"]) (own:=1) (js:=[2]) rfl rfl (by decide +kernel)) rfl (zaI (K:=K) rfl (zas (zaf (K:=K) rfl) (zaG (K:=K) rfl (pv 0)) (zat (op_sub) (pv 1) zad) (fun _ _=>rfl))) (fun _ _ _ _ _=>(zar (i:=0) (show List.Nodup [(Str.ofString "reader"),(Str.ofString "entered")] by decide +kernel) rfl (Or.inl rfl))) (fun _ _ _ _ _=>(zcp (zlr (zjC (zdk hr) (pv 0) (pv 1))))) (fun _ _ _ _ _=>(pv 0)))))),?_⟩
  obtain ⟨_,x,F,st,k,rfl,E0,BB,k1,k2,q⟩:=h;have B1:=BB.lp;have B2:=BB.lr;have E0':=E0;walk_at "hd";have lq:=I.lq;have ld:=I.ld;have l10:=I.wf.n10 BB;have hk:(k-1).toNat < st.nm.length:=by omega
  have hdic:=I.rd _ hk;have hrow:=I.rq _ hk;have hvk:=I.vk _ hk;have hlr:=(I.wf.row _ hk).len;symm;refine zaT (SqL.of hrow) ?_;refine zgy (SqL.of hrow) (by rw [length_map];omega) (fun v=>match v with | .int r=>(zaE st.en (k-1).toNat r).isNone | _=>false) (fun i H' Q' hi s q'=>?_) fun p H2 f s e2=>?_
  ·rw [length_map] at hi;have ex:((st.nm.getD (k-1).toNat []).map V.int).getD i .non=.int ((st.nm.getD (k-1).toNat []).getD i 0):=zcz hi;rw [ex] at q' ⊢;symm;refine zj6 (s _ _ hdic) ?_;rw [hvk];have eb:(!((zaE st.en (k-1).toNat ((st.nm.getD (k-1).toNat []).getD i 0)).map V.int).isSome)=(zaE st.en (k-1).toNat ((st.nm.getD (k-1).toNat []).getD i 0)).isNone:=by
    cases zaE st.en (k-1).toNat ((st.nm.getD (k-1).toNat []).getD i 0) <;> rfl
   symm;rw [eb];exact q'
  ·have ew:((st.nm.getD (k-1).toNat []).map V.int).filter (fun v=>match v with | .int r=>(zaE st.en (k-1).toNat r).isNone | _=>false)=(zaF st.nm st.en (k-1).toNat).map V.int:=by
    unfold zaF;rw [filter_map];rfl
   rw [ew] at e2;exact q p H2 f s e2
theorem zdW {K:PySem.W.Frag} {C x:Addr} {H:Hp} {F:Addr→Prop} {st:ExS} {k:Int} {Q:VK} {E:XK} (h:ExAt C H x F st) (B:InB st.hs st.rs) (k1:1≤k) (k2:k≤st.nm.length) (q:(∀ p H',H p=none→Same H H'→H' p=some (.lst ((zaF st.nm st.en (k-1).toNat).map V.int))→Q (.ref p) H')):zbA K C [.ref x,.int k] H Q E:=⟨rfl,x,F,st,k,rfl,h,B,k1,k2,q⟩
theorem zbj {K:PySem.W.Frag} {C x:Addr} {H:Hp} {F:Addr→Prop} {st:ExS} {k:Int} {Q:VK} {E:XK} {σ:L2.St} {tk:TE} (h:ExAt C H x F st) (B:InB st.hs st.rs) (k1:1≤k) (k2:k≤st.nm.length) (hk:∀ Q:VK,Q (.int k) H→tk σ H Q) (q:(∀ p H',H p=none→Same H H'→H' p=some (.lst ((zaF st.nm st.en (k-1).toNat).map V.int))→Q (.ref p) H')):zbp C "due_readers" (zbA K C) E (zgk tk tNil) σ (.ref x) H Q:=by
 obtain ⟨dx,fs,e,l⟩:=h.ob;exact zaO e (l _ (by decide +kernel)) (zfy (hk _ (zes (zdW h B k1 k2  q))))
def zbP (K:PySem.W.Frag) (C:Addr):Sp:=fun vs H Q _=>vs.length=3∧∃ (x:Addr) (F:Addr→Prop) (st:ExS) (k r:Int),vs=[.ref x,.int k,.int r]∧ExAt C H x F st∧InB st.hs st.rs∧1≤k∧k≤st.nm.length∧r∈zaF st.nm st.en (k-1).toNat∧∀ H',Same H H'→Q .non H'
theorem zcV (T:Txt K mg t):FnOk P w K mg base CX0 2 t.f_41 t.d_41 ["self","paper","reader"] (zbP K t.C_Exam):=by
 have G_42:=zbc (P:=P) (w:=w) (base:=base) T;refine T.F_41.ok sc_41 (fun _ _ _ _ h=>h.1) fun cdv A outer s H vs Q E hr h=>by
  refine ⟨_,(zae (zaS (zap (ze1 (K:=K) rfl (zdk hr)) (pv 2) (zbh (pv 0) T.cl_Exam T.me_42 G_42 (hr.mono (by decide)) T.b_42 .nil zav (zaa (pv 1) pa_nil)) (by with_unfolding_all rfl))
   (zae ps_never) pss_nil)),?_⟩
  obtain ⟨_,x,F,st,k,r,rfl,E0,BB,k1,k2,hr',q⟩:=h;have E0':=E0;walk_at "hd";symm;refine zbj E0' BB k1 k2 (fun Q z=>zd3 (i:=1) rfl z) fun p1 H1 f1 s1 e1=>?_;symm;rw [decide_eq_true hr'];refine iteF ?_;symm;exact q H1 s1
theorem zdd {K:PySem.W.Frag} {C x:Addr} {H:Hp} {F:Addr→Prop} {st:ExS} {k r:Int} {Q:VK} {E:XK} (h:ExAt C H x F st) (B:InB st.hs st.rs) (k1:1≤k) (k2:k≤st.nm.length) (hr:r∈zaF st.nm st.en (k-1).toNat) (q:∀ H',Same H H'→Q .non H'):zbP K C [.ref x,.int k,.int r] H Q E:=⟨rfl,x,F,st,k,r,rfl,h,B,k1,k2,hr,q⟩
def zbO (K:PySem.W.Frag) (C:Addr):Sp:=fun vs H Q _=>vs.length=2∧∃ (x:Addr) (F:Addr→Prop) (st:ExS) (k:Int),vs=[.ref x,.int k]∧ExAt C H x F st∧InB st.hs st.rs∧1≤k∧k≤st.nm.length∧zaF st.nm st.en (k-1).toNat=[]∧(∀ p H',H p=none→Same H H'→H' p=some (.lst ((ptsOf st.nm st.en (k-1).toNat).map V.int))→Q (.ref p) H')
theorem zcn (T:Txt K mg t):FnOk P w K mg base CX0 1 t.f_43 t.d_43 ["self","paper"] (zbO K t.C_Exam):=by
 refine T.F_43.ok sc_43 (fun _ _ _ _ h=>h.1) fun cdv A outer s H vs Q E hr h=>by
  refine ⟨_,(zab (zax (i:=2) sc_43.nd rfl (Or.inr rfl) (zas (zaf (K:=K) rfl) (zaG (K:=K) rfl (pv 0)) (zat (op_sub) (pv 1) zad) (fun _ _=>rfl)))
   (zae (zak (zba (zaq (sc:=zac s_43) (XN:=["self","paper","entered"]) (N:=["reader","entered"]) (own:=1) (js:=[2]) rfl rfl (by decide +kernel)) rfl (zaI (K:=K) rfl (zas (zaf (K:=K) rfl) (zaG (K:=K) rfl (pv 0)) (zat (op_sub) (pv 1) zad) (fun _ _=>rfl))) (fun _ _ _ _ _=>(zar (i:=0) (show List.Nodup [(Str.ofString "reader"),(Str.ofString "entered")] by decide +kernel) rfl (Or.inl rfl))) (fun _ _ _ _ _=>zbl) (fun _ _ _ _ _=>(zlZ (zdk hr) (pv 1) (pv 0) (fun _ _=>rfl))))))),?_⟩
  obtain ⟨_,x,F,st,k,rfl,E0,BB,k1,k2,hw,q⟩:=h;have B1:=BB.lp;have B2:=BB.lr;have E0':=E0;walk_at "hd";have lq:=I.lq;have ld:=I.ld;have l10:=I.wf.n10 BB;have hk:(k-1).toNat < st.nm.length:=by omega
  have hdic:=I.rd _ hk;have hrow:=I.rq _ hk;have hvk:=I.vk _ hk;have hlr:=(I.wf.row _ hk).len;symm;refine zaT (SqL.of hrow) ?_;refine zdM (zbe (SqL.of hrow)) (by rw [length_map];omega) (fun i=>(zaE st.en (k-1).toNat ((st.nm.getD (k-1).toNat []).getD i 0)).getD 0) (fun i H' Q' hi s q'=>?_) fun p H2 f s e2=>?_
  ·rw [length_map] at hi;have ex:((st.nm.getD (k-1).toNat []).map V.int).getD i .non=.int ((st.nm.getD (k-1).toNat []).getD i 0):=zcz hi;rw [ex];obtain ⟨p,hp⟩:=zcH hw (getD_mem (d:=0) hi);rw [hp] at q';symm;refine zj7 (s _ _ hdic) (by rw [hvk,hp];rfl) ?_;exact q'
  ·have ew:(List.range ((st.nm.getD (k-1).toNat []).map V.int).length).map (fun i=>(zaE st.en (k-1).toNat ((st.nm.getD (k-1).toNat []).getD i 0)).getD 0)=ptsOf st.nm st.en (k-1).toNat:=by
    unfold ptsOf;rw [length_map]
    conv=>rhs;rw [← zct (st.nm.getD (k-1).toNat []) 0]
    rw [map_map];rfl
   rw [ew] at e2;exact q p H2 f s e2
theorem zeb {K:PySem.W.Frag} {C x:Addr} {H:Hp} {F:Addr→Prop} {st:ExS} {k:Int} {Q:VK} {E:XK} (h:ExAt C H x F st) (B:InB st.hs st.rs) (k1:1≤k) (k2:k≤st.nm.length) (hw:zaF st.nm st.en (k-1).toNat=[]) (q:(∀ p H',H p=none→Same H H'→H' p=some (.lst ((ptsOf st.nm st.en (k-1).toNat).map V.int))→Q (.ref p) H')):zbO K C [.ref x,.int k] H Q E:=⟨rfl,x,F,st,k,rfl,h,B,k1,k2,hw,q⟩
theorem zcB {K:PySem.W.Frag} {C x:Addr} {H:Hp} {F:Addr→Prop} {st:ExS} {k:Int} {Q:VK} {E:XK} {σ:L2.St} {tk:TE} (h:ExAt C H x F st) (B:InB st.hs st.rs) (k1:1≤k) (k2:k≤st.nm.length) (hw:zaF st.nm st.en (k-1).toNat=[]) (hk:∀ Q:VK,Q (.int k) H→tk σ H Q) (q:(∀ p H',H p=none→Same H H'→H' p=some (.lst ((ptsOf st.nm st.en (k-1).toNat).map V.int))→Q (.ref p) H')):zbp C "points_for" (zbO K C) E (zgk tk tNil) σ (.ref x) H Q:=by
 obtain ⟨dx,fs,e,l⟩:=h.ob;exact zaO e (l _ (by decide +kernel)) (zfy (hk _ (zes (zeb h B k1 k2 hw q))))
def zim (K:PySem.W.Frag):Sp:=fun vs H Q _=>vs.length=3∧∃ x y s:Int,vs=[.int x,.int y,.int s]∧Q (.bl (zbm x y s)) H
theorem zin (T:Txt K mg t):FnOk P w K mg base CX0 1 t.f_17 t.d_17 ["one","other","step"] (zim K):=by
 refine T.F_17.ok sc_17 (fun _ _ _ _ h=>h.1) fun cdv A outer s H vs Q E hr h=>by
  refine ⟨_,(zae (zak (zb7 (op_le) (zag (call_abs) (by rfl) T.z_abs (by rfl) (zaa (zat (op_sub) (pv 0) (pv 1)) pa_nil)) (pv 2) (zay _)))),?_⟩;obtain ⟨_,x,y,s,rfl,q⟩:=h;symm;refine ⟨_,rfl,?_⟩;symm;have e:zbm x y s=decide ((if x-y < 0 then -(x-y) else x-y)≤s):=by
   unfold zbm;rw [decide_eq_decide];split <;> constructor <;> intro h <;> first | omega | (constructor <;> omega)
  rw [e] at q;exact q
theorem zkq {H:Hp} {x y s:Int} {Q:VK} {E:XK} (q:Q (.bl (zbm x y s)) H):zim K [.int x,.int y,.int s] H Q E:=⟨rfl,x,y,s,rfl,q⟩
def zbB (K:PySem.W.Frag) (C:Addr):Sp:=fun vs H Q _=>vs.length=2∧∃ (x:Addr) (F:Addr→Prop) (st:ExS) (k:Int),vs=[.ref x,.int k]∧ExAt C H x F st∧InB st.hs st.rs∧1≤k∧k≤st.nm.length∧(∀ H',Same H H'→Q (.bl (zbs st (k-1).toNat)) H')
theorem zdE (T:Txt K mg t):FnOk P w K mg base CX0 2 t.f_46 t.d_46 ["self","paper"] (zbB K t.C_Exam):=by
 have G_42:=zbc (P:=P) (w:=w) (base:=base) T;have G_43:=zcn (P:=P) (w:=w) (base:=base) T;have G_17:=zin (P:=P) (w:=w) (base:=base) T;refine T.F_46.ok sc_46 (fun _ _ _ _ h=>h.1) fun cdv A outer s H vs Q E hr h=>by
  refine ⟨_,(zab (zaS (zcv (zap (op_gt) (zag (zai (K:=K) rfl) (by rfl) T.z_len (by rfl) (zaa (zas (zaf (K:=K) rfl) (zaG (K:=K) rfl (pv 0)) (zat (op_sub) (pv 1) zad) (fun _ _=>rfl)) pa_nil)) zad (zay _)) (zbX (zap (op_gt) (zag (zai (K:=K) rfl) (by rfl) T.z_len (by rfl) (zaa (zbh (pv 0) T.cl_Exam T.me_42 G_42 (hr.mono (by decide)) T.b_42 .nil zav (zaa (pv 1) pa_nil)) pa_nil)) zad (zay _)))).pt
   (zae (zak za9)) pss_nil)
   (zab (zax (i:=2) sc_46.nd rfl (Or.inl rfl) (zbh (pv 0) T.cl_Exam T.me_43 G_43 (hr.mono (by decide)) T.b_43 .nil zav (zaa (pv 1) pa_nil)))
   (zae (zak (zjd (zal G_17 (hr.mono (by decide)) (by rfl) T.m_17 T.F_17.kp T.b_17 .nil zav (zaa (zas (zaf (K:=K) rfl) (pv 2) zad (fun _ _=>rfl)) (zaa (zas (zaf (K:=K) rfl) (pv 2) zad (fun _ _=>rfl)) (zaa (zaG (K:=K) rfl (pv 0)) pa_nil))))))))),?_⟩
  obtain ⟨_,x,F,st,k,rfl,E0,BB,k1,k2,q⟩:=h;have B1:=BB.lp;have B2:=BB.lr;have E0':=E0;walk_at "hd";have lq:=I.lq;have ld:=I.ld;have l10:=I.wf.n10 BB;have hk:(k-1).toNat < st.nm.length:=by omega
  have hdic:=I.rd _ hk;have hrow:=I.rq _ hk;have hvk:=I.vk _ hk;have hlr:=(I.wf.row _ hk).len;have hpl:=zf1 st.nm st.en (k-1).toNat;symm;refine zbk (fun h0=>?_) (fun h0=>?_)
  ·refine iteT ?_;symm;have hn:zbs st (k-1).toNat=false:=by unfold zbs;rw [decide_eq_false (by omega)];rfl
   rw [hn] at q;exact q H (Same.refl H)
  have hl2:(st.nm.getD (k-1).toNat []).length=2:=by omega
  symm;refine zbj E0' BB k1 k2 (fun Q z=>zd3 (i:=1) rfl z) fun p1 H1 f1 s1 e1=>?_;symm;refine zbk (fun h1=>?_) (fun h1=>?_)
  ·symm;have hn:zbs st (k-1).toNat=false:=by
    unfold zbs;rw [decide_eq_false (show ¬zaF st.nm st.en (k-1).toNat=[] from fun z=>by rw [z] at h1;exact absurd h1 (by simp)),Bool.and_false];rfl
   rw [hn] at q;exact q H1 s1
  have hw:zaF st.nm st.en (k-1).toNat=[]:=eq_nil_of_length_eq_zero (by omega);have E1:=E0'.same s1;symm;refine zcB E1 BB k1 k2 hw (fun Q z=>zd3 (i:=1) rfl z) fun p2 H2 f2 s2 e2=>?_;have hob:=s2 _ _ (s1 _ _ hob);symm;refine zkq ?_;symm;have hn:zbs st (k-1).toNat = !zbm ((ptsOf st.nm st.en (k-1).toNat).getD 0 0) ((ptsOf st.nm st.en (k-1).toNat).getD 1 0) st.step:=by unfold zbs;rw [decide_eq_true hl2,decide_eq_true hw];rfl
  rw [hn] at q;exact q H2 (s1.trans s2)
theorem zdX {K:PySem.W.Frag} {C x:Addr} {H:Hp} {F:Addr→Prop} {st:ExS} {k:Int} {Q:VK} {E:XK} (h:ExAt C H x F st) (B:InB st.hs st.rs) (k1:1≤k) (k2:k≤st.nm.length) (q:(∀ H',Same H H'→Q (.bl (zbs st (k-1).toNat)) H')):zbB K C [.ref x,.int k] H Q E:=⟨rfl,x,F,st,k,rfl,h,B,k1,k2,q⟩
theorem zdY {K:PySem.W.Frag} {C x:Addr} {H:Hp} {F:Addr→Prop} {st:ExS} {k:Int} {Q:VK} {E:XK} {σ:L2.St} {tk:TE} (h:ExAt C H x F st) (B:InB st.hs st.rs) (k1:1≤k) (k2:k≤st.nm.length) (hk:∀ Q:VK,Q (.int k) H→tk σ H Q) (q:(∀ H',Same H H'→Q (.bl (zbs st (k-1).toNat)) H')):zbp C "needs_third" (zbB K C) E (zgk tk tNil) σ (.ref x) H Q:=by
 obtain ⟨dx,fs,e,l⟩:=h.ob;exact zaO e (l _ (by decide +kernel)) (zfy (hk _ (zes (zdX h B k1 k2  q))))
def okT (left row:List Int) (r:Int):Bool:=!decide (r∈row) && decide (0 < left.getD (r-1).toNat 0)
theorem zhE {hs:List Int} {rs:LI} {left row:List Int} {k:Int} {i:Nat}:fitT hs rs left k row i=(mayB hs rs k i && okT left row (1+(i:Int))):=by
 unfold fitT mayB okT;have e:((1:Int)+(i:Int)-1).toNat=i:=by omega
 have e2:(1:Int)+(i:Int)=(i:Int)+1:=by omega
 have e3:decide (1≤left.getD i 0)=decide (0 < left.getD i 0):=decide_eq_decide.mpr (by omega);rw [e,e2,e3];generalize decide (0 < left.getD i 0)=x;generalize decide ((i:Int)+1∈row)=y
 cases x <;> cases y <;> simp
theorem zlF {hs:List Int} {rs:LI} {k:Int} {i:Nat} (hi:i < (zah hs rs k).length):∃ a,a < rs.length∧mayB hs rs k a=true∧(zah hs rs k).getD i 0=1+(a:Int)∧∀ b,b < a→mayB hs rs k b=true→∃ j,j < i∧(zah hs rs k).getD j 0=1+(b:Int):=by
 unfold zah at hi ⊢;generalize hl:(List.range rs.length).filter (mayB hs rs k)=l at hi ⊢;rw [length_map] at hi;have hm:l[i]∈(List.range rs.length).filter (mayB hs rs k):=hl▸getElem_mem hi;obtain ⟨m1,m2⟩:=mem_filter.mp hm;have hp:l.Pairwise (· < ·):=hl▸List.Pairwise.filter _ List.pairwise_lt_range;have hg:∀ j (hj:j < l.length),(l.map fun i:Nat=>1+(i:Int)).getD j 0=1+((l[j]:Nat):Int):=fun j hj=>by
  rw [getD_eq_getElem?_getD,getElem?_map,getElem?_eq_getElem hj];rfl
 refine ⟨l[i],mem_range.mp m1,m2,hg i hi,fun b hb hm=>?_⟩;have hbm:b∈l:=hl▸mem_filter.mpr ⟨mem_range.mpr (by have:=mem_range.mp m1;omega),hm⟩;obtain ⟨j,hj,ej⟩:=getElem_of_mem hbm;refine ⟨j,?_,by rw [hg j hj,ej]⟩;refine Nat.lt_of_not_le fun hle=>?_;rcases Nat.eq_or_lt_of_le hle with z | z
 ·subst z;omega
 ·have:=List.pairwise_iff_getElem.mp hp i j hi hj z;omega
theorem zmz {hs:List Int} {rs:LI} {k:Int} {b:Nat} (hb:b < rs.length) (hm:mayB hs rs k b=true):∃ j,j < (zah hs rs k).length∧(zah hs rs k).getD j 0=1+(b:Int):=by
 have:(1+(b:Int))∈zah hs rs k:=mem_map.mpr ⟨b,mem_filter.mpr ⟨mem_range.mpr hb,hm⟩,rfl⟩;exact L2.mem_getD this
theorem zkr {hs:List Int} {rs:LI} {left row:List Int} {k:Int} {i:Nat} (hi:i < (zah hs rs k).length) (h:okT left row ((zah hs rs k).getD i 0)=true) (hb:∀ j,j < i→okT left row ((zah hs rs k).getD j 0)=false):za7 hs rs left k row=(zah hs rs k).getD i 0:=by
 obtain ⟨a,a1,a2,a3,a4⟩:=zlF hi;rw [a3] at h ⊢;rw [Int.add_comm];refine zgI a1 (by rw [zhE,a2,h];rfl) fun b hlt=>?_;rw [zhE]
 cases hm:mayB hs rs k b with
 | false=>rfl
 | true =>
   obtain ⟨j,j1,j2⟩:=a4 b hlt hm;have:=hb j j1;rw [j2] at this;rw [this];rfl
theorem zi1 {hs:List Int} {rs:LI} {left row:List Int} {k:Int} (hb:∀ j,j < (zah hs rs k).length→okT left row ((zah hs rs k).getD j 0)=false):za7 hs rs left k row=0:=by
 refine zib fun b hlt=>?_;rw [zhE]
 cases hm:mayB hs rs k b with
 | false=>rfl
 | true =>
   obtain ⟨j,j1,j2⟩:=zmz hlt hm;have:=hb j j1;rw [j2] at this;rw [this];rfl
def zeo (K:PySem.W.Frag):Sp:=fun vs H Q _=>vs.length=5∧∃ (a b c d:Addr) (k:Int) (hs:List Int) (rs:LI) (left row:List Int),vs=[.ref a,.ref b,.ref c,.int k,.ref d]∧SqL K H a (hs.map V.int)∧LL K H b rs∧SqL K H c (left.map V.int)∧SqL K H d (row.map V.int)∧InB hs rs∧left.length=rs.length∧1≤k∧k≤hs.length∧∀ H',Same H H'→Q (.int (za7 hs rs left k row)) H'
theorem zgU (T:Txt K mg t):FnOk P w K mg base CX0 3 t.f_23 t.d_23 ["papers","readers","left","paper","row"] (zeo K):=by
 have G_2:=zcu (P:=P) (w:=w) (base:=base) T;refine T.F_23.ok sc_23 (fun _ _ _ _ h=>h.1) fun cdv A outer s H vs Q E hr h=>by
  refine ⟨_,(zab (za2 PassesOwn.never rfl (zaI (K:=K) rfl (zal G_2 (hr.mono (by decide)) (by rfl) T.m_2 T.F_2.kp T.b_2 .nil zav (zaa (pv 0) (zaa (pv 1) (zaa (pv 3) pa_nil))))) (zar (i:=5) sc_23.nd rfl (Or.inl rfl))
   (zae (zaS (zeF (zap (ze1 (K:=K) rfl (zdk hr)) (pv 5) (pv 4) (by with_unfolding_all rfl)) (zdu (zap (op_gt) (zas (zaf (K:=K) rfl) (pv 2) (zat (op_sub) (pv 5) zad) (fun _ _=>rfl)) zad (zay _)))).pt
   (zae (zak (pv 5))) pss_nil)))
   (zae (zak zad))),?_⟩
  obtain ⟨_,a,b,c,d,k,hs,rs,left,row,rfl,h1,h2,h3,h4,B,hl,k1,k2,q⟩:=h;have B1:=B.lp;have B2:=B.lr;symm;refine zcK h1 h2 k1 k2 (by omega) B.r2 fun p H2 f s e=>?_;have h3':=s.seq h3;have h4':=s.seq h4;refine zaT (SqL.of e) ?_;refine zbL (xs:=(zah hs rs k).map V.int) (fun i σ H'=>(∃ v,σ=[some (.ref a),some (.ref b),some (.ref c),some (.int k),some (.ref d),v])∧H'=H2∧∀ j,j < i→okT left row ((zah hs rs k).getD j 0)=false) ⟨⟨none,rfl⟩,rfl,fun j hj=>absurd hj (by omega)⟩ ?_ ?_ ?_
  ·rintro i σ H' _ ⟨_,rfl,_⟩;exact SqL.of e
  ·rintro i y σ H' hy ⟨⟨v,rfl⟩,rfl,hall⟩;obtain ⟨hi,rfl⟩:=zcq hy;obtain ⟨x,x1,x2,x3,_⟩:=zlF hi;symm;have ends:okT left row ((zah hs rs k).getD i 0)=false→∀ j,j < i+1→okT left row ((zah hs rs k).getD j 0)=false:=fun z j hj=>by
    by_cases e:j=i
    ·rw [e];exact z
    ·exact hall j (by omega)
   refine zeM (fun g1=>?_) (fun g1=>?_)
   ·symm;refine zbk (fun g2=>?_) (fun g2=>?_)
    ·symm;have hok:okT left row ((zah hs rs k).getD i 0)=true:=by unfold okT;rw [decide_eq_false g1,decide_eq_true g2];rfl
     rw [← zkr hi hok hall];exact q _ s
    ·symm;exact ⟨⟨_,rfl⟩,rfl,ends (by unfold okT;rw [decide_eq_false g2,Bool.and_false])⟩
   ·symm;refine iteF ?_;symm;exact ⟨⟨_,rfl⟩,rfl,ends (by unfold okT;rw [decide_eq_true g1];rfl)⟩
  ·rintro σ H' ⟨⟨v,rfl⟩,rfl,hall⟩;rw [length_map] at hall;symm;rw [← zi1 (left:=left) (row:=row) hall];exact q _ s
theorem zhF {H:Hp} {a b c d:Addr} {k:Int} {hs:List Int} {rs:LI} {left row:List Int} {Q:VK} {E:XK} (h1:SqL K H a (hs.map V.int)) (h2:LL K H b rs) (h3:SqL K H c (left.map V.int)) (h4:SqL K H d (row.map V.int)) (B:InB hs rs) (hl:left.length=rs.length) (k1:1≤k) (k2:k≤hs.length) (q:∀ H',Same H H'→Q (.int (za7 hs rs left k row)) H'):zeo K [.ref a,.ref b,.ref c,.int k,.ref d] H Q E:=⟨rfl,a,b,c,d,k,hs,rs,left,row,rfl,h1,h2,h3,h4,B,hl,k1,k2,q⟩
def zde (K:PySem.W.Frag) (C:Addr):Sp:=fun vs H Q _=>vs.length=1∧∃ (x:Addr) (F:Addr→Prop) (st:ExS),vs=[.ref x]∧ExAt C H x F st∧InB st.hs st.rs∧(∀ p H',H p=none→Same H H'→H' p=some (.lst ((zf0 st).map V.int))→Q (.ref p) H')
theorem zgV (T:Txt K mg t):FnOk P w K mg base CX0 3 t.f_38 t.d_38 ["self"] (zde K t.C_Exam):=by
 have G_8:=zcL (P:=P) (w:=w) (base:=base) T;refine T.F_38.ok sc_38 (fun _ _ _ _ h=>h.1) fun cdv A outer s H vs Q E hr h=>by
  refine ⟨_,(zae (zak (zal G_8 (hr.mono (by decide)) (by rfl) T.m_8 T.F_8.kp T.b_8 .nil zav (zaa (zaG (K:=K) rfl (pv 0)) (zaa (zaG (K:=K) rfl (pv 0)) pa_nil))))),?_⟩;obtain ⟨_,x,F,st,rfl,E0,BB,q⟩:=h;have B1:=BB.lp;have B2:=BB.lr;walk_at "hd";have L:LL K H e.b st.rs:=⟨e.ps,SqL.of hhb,I.lp,I.rp⟩
  have M:LL K H e.c st.nm:=⟨e.qs,SqL.of hhc,I.lq,I.rq⟩
  symm;refine zcM L M (by omega) (by have:=I.wf.n10 BB;omega) BB.r2 fun p H2 f s z=>?_;exact q p H2 f s z
theorem zhG {K:PySem.W.Frag} {C x:Addr} {H:Hp} {F:Addr→Prop} {st:ExS} {Q:VK} {E:XK} (h:ExAt C H x F st) (B:InB st.hs st.rs) (q:(∀ p H',H p=none→Same H H'→H' p=some (.lst ((zf0 st).map V.int))→Q (.ref p) H')):zde K C [.ref x] H Q E:=⟨rfl,x,F,st,rfl,h,B,q⟩
theorem zhH {K:PySem.W.Frag} {C x:Addr} {H:Hp} {F:Addr→Prop} {st:ExS} {Q:VK} {E:XK} {σ:L2.St} (h:ExAt C H x F st) (B:InB st.hs st.rs) (q:(∀ p H',H p=none→Same H H'→H' p=some (.lst ((zf0 st).map V.int))→Q (.ref p) H')):zbp C "left" (zde K C) E tNil σ (.ref x) H Q:=by
 obtain ⟨dx,fs,e,l⟩:=h.ob;exact zaO e (l _ (by decide +kernel)) (zes (zhG h B q))
def zco (K:PySem.W.Frag) (C:Addr):Sp:=fun vs H Q _=>vs.length=2∧∃ (x:Addr) (F:Addr→Prop) (st:ExS) (k:Int),vs=[.ref x,.int k]∧ExAt C H x F st∧InB st.hs st.rs∧st.dl.isSome=true∧1≤k∧k≤st.nm.length∧∀ H' F',ExFr H H' F F'→ExAt C H' x F' (zaH st (k-1).toNat)→Q (.int (zaJ st (k-1).toNat)) H'
theorem zdZ (T:Txt K mg t):FnOk P w K mg base CX0 4 t.f_45 t.d_45 ["self","paper"] (zco K t.C_Exam):=by
 have G_46:=zdE (P:=P) (w:=w) (base:=base) T;have G_23:=zgU (P:=P) (w:=w) (base:=base) T;have G_38:=zgV (P:=P) (w:=w) (base:=base) T;refine T.F_45.ok sc_45 (fun _ _ _ _ h=>h.1) fun cdv A outer s H vs Q E hr h=>by
  refine ⟨_,(zab (zaS (zbd (zaw (K:=K) rfl (zbh (pv 0) T.cl_Exam T.me_46 G_46 (hr.mono (by decide)) T.b_46 .nil zav (zaa (pv 1) pa_nil)) (fun _=>rfl)))
   (zae (zak zad)) pss_nil)
   (zab (zax (i:=2) sc_45.nd rfl (Or.inl rfl) (zas (zaf (K:=K) rfl) (zaG (K:=K) rfl (pv 0)) (zat (op_sub) (pv 1) zad) (fun _ _=>rfl)))
   (zab (zax (i:=3) sc_45.nd rfl (Or.inl rfl) (zal G_23 (hr.mono (by decide)) (by rfl) T.m_23 T.F_23.kp T.b_23 .nil zav (zaa (zaG (K:=K) rfl (pv 0)) (zaa (zaG (K:=K) rfl (pv 0)) (zaa (zbv (pv 0) T.cl_Exam T.me_38 G_38 (hr.mono (by decide)) T.b_38 .nil zav) (zaa (pv 1) (zaa (pv 2) pa_nil)))))))
   (zab (zaS (zap (op_gt) (pv 3) zad (zay _))
   (zae (zaK (zbK (K:=K) rfl PySem.F.plainAttrs_list PySem.F.slot_list_append PySem.F.type_list_append mt_append (pv 2) (zaa (pv 3) pa_nil)))) pss_nil)
   (zae (zak (pv 3))))))),?_⟩
  obtain ⟨_,x,F,st,k,rfl,E0,BB,hd,k1,k2,q⟩:=h;have B1:=BB.lp;have B2:=BB.lr;have E0':=E0;walk_at "hd";have lq:=I.lq;have ld:=I.ld;have l10:=I.wf.n10 BB;have hk:(k-1).toNat < st.nm.length:=by omega
  have hdic:=I.rd _ hk;have hrow:=I.rq _ hk;have hvk:=I.vk _ hk;have hlr:=(I.wf.row _ hk).len;symm;refine zdY E0' BB k1 k2 (fun Q z=>zd3 (i:=1) rfl z) fun H1 s1=>?_;symm
  cases hn:zbs st (k-1).toNat with
  | false =>
    refine iteT ?_;have ht:zaJ st (k-1).toNat=0:=by unfold zaJ;rw [hn];rfl
    have hm:zaH st (k-1).toNat=st:=by unfold zaH;rw [ht];rfl
    rw [ht,hm] at q;symm;exact q H1 F (ExFr.same s1) (E0'.same s1)
  | true =>
    refine iteF ?_;have ht:zaJ st (k-1).toNat=za7 st.hs st.rs (zf0 st) (((k-1).toNat:Int)+1) (st.nm.getD (k-1).toNat []):=by unfold zaJ;rw [hn];rfl
    have ek:((k-1).toNat:Int)+1=k:=by omega
    rw [ek] at ht;have E1:=E0'.same s1;have hob1:=s1 _ _ hob;have hhc1:=s1 _ _ hhc;symm;refine zhH E1 BB fun p2 H2 f2 s2 e2=>?_;have s02:=s1.trans s2;have hrow2:=s02 _ _ hrow;have L:LL K H e.b st.rs:=⟨e.ps,SqL.of hhb,I.lp,I.rp⟩
    symm;refine zhF (SqL.of (s02 _ _ hha)) (L.same s02) (SqL.of e2) (SqL.of hrow2) BB (by unfold zf0 za1;rw [length_map,length_range]) k1 (by have:=I.wf.ln hd;omega) fun H3 s3=>?_;rw [← ht];have s03:=s02.trans s3;have hrow3:=s03 _ _ hrow;symm;refine zbk (fun h0=>?_) (fun h0=>?_)
    ·symm;refine zaM hrow3 (by rw [length_map];omega) fun H4 b4 e4=>?_;symm;obtain ⟨d,hdl⟩:=Option.isSome_iff_exists.mp hd;obtain ⟨nm,en⟩:=d;have enm:st.nm=nm:=by unfold ExS.nm;rw [hdl];rfl
     have een:st.en=en:=by unfold ExS.en;rw [hdl];rfl
     have I3:ExIn t.C_Exam H3 e st kvs:=I.keep fun b o _ z=>s03 b o z;have hneed:=hn;unfold zbs at hneed;simp only [Bool.and_eq_true,decide_eq_true_eq] at hneed;obtain ⟨⟨n1,n2⟩,_⟩:=hneed;obtain ⟨f,s,r1,r2,r3,r4⟩:=I.wf.row _ hk;have hrw:st.nm.getD (k-1).toNat []=[f,s]:=by
      rcases r4 with r4 | ⟨t',r4,_⟩
      ·exact r4
      ·rw [r4] at n1;exact absurd n1 (by simp)
     have h0':0 < za7 st.hs st.rs (zf0 st) k (st.nm.getD (k-1).toNat []):=by rw [← ht];exact h0
     have sp:=zdh h0';rw [← ht] at sp;have wn:∀ r∈st.nm.getD (k-1).toNat [],(zaE en (k-1).toNat r).isSome=true:=fun r hr=>by
      obtain ⟨p,hp⟩:=zcH n2 hr;rw [een] at hp;rw [hp];rfl
     have hm:zaH st (k-1).toNat={ st with dl:=some (nm.set (k-1).toNat (nm.getD (k-1).toNat []++[zaJ st (k-1).toNat]),en) }:=by unfold zaH;rw [if_pos h0,enm,een]
     rw [hm] at q;rw [enm] at hrw hrow3 hk e4 wn sp;have I4:=I3.third (t:=zaJ st (k-1).toNat) hdl hk hrw ⟨sp.1,sp.2.1⟩ (by rw [← hrw];exact sp.2.2.1) (wn f (by rw [hrw];simp)) (wn s (by rw [hrw];simp)) b4 e4;exact q H4 F ⟨fun b o eb nb=>by rw [b4 _ (fun z=>nb ((hF _).mpr (by rw [z];exact zlb (zb0 (by omega)))))];exact s03 _ _ eb,fun b z=>.inl z⟩ ⟨e,kvs,rfl,hF,I4⟩
    ·symm;have hm:zaH st (k-1).toNat=st:=by unfold zaH;rw [if_neg h0]
     rw [hm] at q;exact q H3 F (ExFr.same s03) (E0'.same s03)
theorem zec {K:PySem.W.Frag} {C x:Addr} {H:Hp} {F:Addr→Prop} {st:ExS} {k:Int} {Q:VK} {E:XK} {σ:L2.St} {tk:TE} (h:ExAt C H x F st) (B:InB st.hs st.rs) (hd:st.dl.isSome=true) (k1:1≤k) (k2:k≤st.nm.length) (hk:∀ Q:VK,Q (.int k) H→tk σ H Q) (q:∀ H' F',ExFr H H' F F'→ExAt C H' x F' (zaH st (k-1).toNat)→Q (.int (zaJ st (k-1).toNat)) H'):zbp C "name_third" (zco K C) E (zgk tk tNil) σ (.ref x) H Q:=by
 obtain ⟨dx,fs,e,l⟩:=h.ob;exact zaO e (l _ (by decide +kernel)) (zfy (hk _ (zes ⟨rfl,x,F,st,k,rfl,h,B,hd,k1,k2,q⟩)))
def zd0 (K:PySem.W.Frag) (C:Addr):Sp:=fun vs H Q _=>vs.length=4∧∃ (x:Addr) (F:Addr→Prop) (st:ExS) (k r p:Int),vs=[.ref x,.int k,.int r,.int p]∧ExAt C H x F st∧InB st.hs st.rs∧st.dl.isSome=true∧1≤k∧k≤st.nm.length∧r∈zaF st.nm st.en (k-1).toNat∧0≤p∧p≤100∧st.en.length≤900∧∀ H' F',ExFr H H' F F'→ExAt C H' x F' (zaH (entS st (k-1).toNat r p) (k-1).toNat)→Q (.int (zaJ (entS st (k-1).toNat r p) (k-1).toNat)) H'
theorem zgc (T:Txt K mg t):FnOk P w K mg base CX0 5 t.f_29 t.d_29 ["self","paper","reader","points"] (zd0 K t.C_Exam):=by
 have G_40:=zbU (P:=P) (w:=w) (base:=base) T;have G_20:=zbT (P:=P) (w:=w) (base:=base) T;have G_41:=zcV (P:=P) (w:=w) (base:=base) T;have G_21:=zbb (P:=P) (w:=w) (base:=base) T;have G_45:=zdZ (P:=P) (w:=w) (base:=base) T;refine T.F_29.ok sc_29 (fun _ _ _ _ h=>h.1) fun cdv A outer s H vs Q E hr h=>by
  refine ⟨_,(zab (zaK (zbv (pv 0) T.cl_Exam T.me_40 G_40 (hr.mono (by decide)) T.b_40 .nil zav))
   (zab (zaK (zal G_20 (hr.mono (by decide)) (by rfl) T.m_20 T.F_20.kp T.b_20 .nil zav (zaa (pv 1) (zaa zad (zaa (zag (zai (K:=K) rfl) (by rfl) T.z_len (by rfl) (zaa (zaG (K:=K) rfl (pv 0)) pa_nil)) pa_nil)))))
   (zab (zaK (zal G_20 (hr.mono (by decide)) (by rfl) T.m_20 T.F_20.kp T.b_20 .nil zav (zaa (pv 2) (zaa zad (zaa (zag (zai (K:=K) rfl) (by rfl) T.z_len (by rfl) (zaa (zaG (K:=K) rfl (pv 0)) pa_nil)) pa_nil)))))
   (zab (zaK (zbh (pv 0) T.cl_Exam T.me_41 G_41 (hr.mono (by decide)) T.b_41 .nil zav (zaa (pv 1) (zaa (pv 2) pa_nil))))
   (zab (zaK (zal G_21 (hr.mono (by decide)) (by rfl) T.m_21 T.F_21.kp T.b_21 .nil zav (zaa (pv 3) (zaa (zcW (v:=.int 100) (by rfl) T.v_MOST_POINTS T.w_MOST_POINTS) pa_nil))))
   (zab (zjD (zdk hr) (zas (zaf (K:=K) rfl) (zaG (K:=K) rfl (pv 0)) (zat (op_sub) (pv 1) zad) (fun _ _=>rfl)) (pv 2) (pv 3) rfl)
   (zae (zak (zbh (pv 0) T.cl_Exam T.me_45 G_45 (hr.mono (by decide)) T.b_45 .nil zav (zaa (pv 1) pa_nil)))))))))),?_⟩
  obtain ⟨_,x,F,st,k,r,p,rfl,E0,BB,hd,k1,k2,hr',p0,p1,h900,q⟩:=h;have B1:=BB.lp;have B2:=BB.lr;have E0':=E0;walk_at "hd";have lq:=I.lq;have ld:=I.ld;have l10:=I.wf.n10 BB;have hk:(k-1).toNat < st.nm.length:=by omega
  have hdic:=I.rd _ hk;have hrow:=I.rq _ hk;have hvk:=I.vk _ hk;have hlr:=(I.wf.row _ hk).len;have hln:=I.wf.ln hd;have hrr:=(I.wf.row _ hk).rng (mem_filter.mp hr').1;have lp:=I.lp;symm;refine zdD E0' hd ?_;symm;refine zby (by omega) (by omega) ?_;symm;refine zby (by omega) (by omega) ?_;symm;refine zaO hob (zj8 (zfE (by decide +kernel))) ?_;symm;refine zdd E0' BB k1 k2 hr' fun H1 s1=>?_;symm;refine zbi (by omega) (by omega) ?_;have hob1:=s1 _ _ hob;have hhd1:=s1 _ _ hhd;have hdic1:=s1 _ _ hdic;have hsk:=I.sk _ hk;symm;refine ziJ hdic1 (by omega) fun H2 b2 e2=>?_;obtain ⟨d,hdl⟩:=Option.isSome_iff_exists.mp hd;obtain ⟨nm,en⟩:=d;have enm:st.nm=nm:=by unfold ExS.nm;rw [hdl];rfl
  have een:st.en=en:=by unfold ExS.en;rw [hdl];rfl
  have I1:ExIn t.C_Exam H1 e st kvs:=I.keep fun b o _ z=>s1 b o z;have I2:=I1.enter (k:=(k-1).toNat) (r:=r) (pts:=p) hdl (by rw [← enm];exact hk) ⟨p0,p1⟩ b2 e2;have e2':entS st (k-1).toNat r p={ st with dl:=some (nm,en++[[((k-1).toNat:Int)+1,r,p]]) }:=by unfold entS;rw [enm,een]
  rw [← e2'] at I2;have E2:ExAt t.C_Exam H2 e.x F (entS st (k-1).toNat r p):=⟨e,_,rfl,hF,I2⟩
  have nm2:(entS st (k-1).toNat r p).nm=st.nm:=rfl;symm;refine zec E2 BB rfl k1 (by rw [nm2];exact k2) (fun Q z=>zd3 (i:=1) rfl z) fun H3 F3 f3 E3=>?_;refine q H3 F3 (ExFr.trans ?_ f3) E3;exact ⟨fun b o eb nb=>by rw [b2 _ (fun z=>nb ((hF _).mpr (by rw [z];exact zh8 (zb0 (by omega)))))];exact s1 _ _ eb,fun b z=>.inl z⟩
theorem zgW {K:PySem.W.Frag} {C x:Addr} {H:Hp} {F:Addr→Prop} {st:ExS} {k r p:Int} {Q:VK} {E:XK} (h:ExAt C H x F st) (B:InB st.hs st.rs) (hd:st.dl.isSome=true) (k1:1≤k) (k2:k≤st.nm.length) (hr:r∈zaF st.nm st.en (k-1).toNat) (p0:0≤p) (p1:p≤100) (h9:st.en.length≤900) (q:∀ H' F',ExFr H H' F F'→ExAt C H' x F' (zaH (entS st (k-1).toNat r p) (k-1).toNat)→Q (.int (zaJ (entS st (k-1).toNat r p) (k-1).toNat)) H'):zd0 K C [.ref x,.int k,.int r,.int p] H Q E:=⟨rfl,x,F,st,k,r,p,rfl,h,B,hd,k1,k2,hr,p0,p1,h9,q⟩
def zep (K:PySem.W.Frag):Sp:=fun vs H Q _=>vs.length=2∧∃ (a b:Addr) (rs nm:LI),vs=[.ref a,.ref b]∧LL K H a rs∧LL K H b nm∧rs.length≤8∧nm.length≤20∧(∀ i,i < rs.length→(rs.getD i []).length=2)∧∀ p H',H p=none→Same H H'→H' p=some (.lst ((za1 rs nm).map V.int))→Q (.ref p) H'
theorem zgX (T:Txt K mg t):FnOk P w K mg base CX0 1 t.f_59 t.d_59 ["_law_staff","_law_names"] (zep K):=by
 refine T.F_59.ok sc_59 (fun _ _ _ _ h=>h.1) fun cdv A outer s H vs Q E hr h=>by
  refine ⟨_,(zab (zax (i:=2) sc_59.nd rfl (Or.inl rfl) (zaN pa_nil))
   (zab (za2 PassesOwn.never rfl (zaX (by rfl) T.z_range (zaa (zag (zai (K:=K) rfl) (by rfl) T.z_len (by rfl) (zaa (pv 0) pa_nil)) pa_nil)) (zar (i:=3) sc_59.nd rfl (Or.inr rfl))
   (zae (zaK (zbK (K:=K) rfl PySem.F.plainAttrs_list PySem.F.slot_list_append PySem.F.type_list_append mt_append (pv 2) (zaa (zat (op_sub) (zas (zaf (K:=K) rfl) (zas (zaf (K:=K) rfl) (pv 0) (pv 3) (fun _ _=>rfl)) zad (fun _ _=>rfl)) (zag (zai (K:=K) rfl) (by rfl) T.z_len (by rfl) (zaa (zba (zaq (sc:=zac s_59) (XN:=["_law_staff","_law_names","_law_left","_law_k"]) (N:=["_law_row_here","_law_k"]) (own:=1) (js:=[3]) rfl rfl (by decide +kernel)) rfl (zaI (K:=K) rfl (pv 1)) (fun _ _ _ _ _=>(zar (i:=0) (show List.Nodup [(Str.ofString "_law_row_here"),(Str.ofString "_law_k")] by decide +kernel) rfl (Or.inl rfl))) (fun _ _ _ _ _=>(zcp (zap (zeg (K:=K) rfl (zdk hr)) (zat (op_addG) (pv 1) zad) (pv 0) (by with_unfolding_all rfl)))) (fun _ _ _ _ _=>(pv 0))) pa_nil))) pa_nil)))))
   (zae (zak (pv 2))))),?_⟩
  obtain ⟨_,a,b,rs,nm,rfl,L1,L2,l1,l2,r2,q⟩:=h;obtain ⟨ps,ha,hpl,hpr⟩:=id L1;symm;refine zau (by decide) fun p1 H1 f1 s1 e1=>?_;have ha1:=s1.seq ha;symm;refine zb3 (by omega) (by omega) ?_;have en:((ps.length:Int)).toNat=rs.length:=by omega
  rw [en];have hll:(za1 rs nm).length=rs.length:=by unfold za1;rw [length_map,length_range]
  refine zb8 (fun i σ H'=>(∃ v,σ=[some (.ref a),some (.ref b),some (.ref p1),v])∧Same H H'∧H' p1=some (.lst (((za1 rs nm).take i).map V.int))) ⟨⟨none,rfl⟩,s1,e1⟩ ?_ ?_
  ·rintro i σ H' hi ⟨⟨v,rfl⟩,s,ep⟩;have ei:((0+(i:Int))).toNat=i:=by omega
   have hrow:=s _ _ (hpr i hi);have h2:=r2 i hi;obtain ⟨pn,hn,ln,rn⟩:=id (L2.same s);have has:=s.seq ha;symm;rw [ei];symm;refine zaT hn ?_;refine zez hn ln (by omega) (x:=(i:Int)+1) (fun j H2 Q' hj s2 q'=>?_) fun p2 H2 zs f2 s2 e2 ez=>?_
   ·have hrow2:=s2 _ _ (rn j hj);have e0:(0:Int)+(i:Int)+1=(i:Int)+1:=by omega
    symm;rw [e0];exact q'
   have ep2:=s2 _ _ ep;symm;refine zaM ep2 (by rw [length_map,length_take];omega) fun H3 b3 e3=>?_;symm;refine ⟨⟨_,rfl⟩,(s.trans s2).but b3 f1,?_⟩;rw [e3,take_add_one,getElem?_eq_getElem (by omega),map_append,ez];have eg:(za1 rs nm)[i]'(by omega)=(rs.getD i []).getD 1 0-(cntB nm ((i:Int)+1):Int):=by
    have:=zfY (rs:=rs) (rows:=nm) hi;rw [getD_eq_getElem?_getD,getElem?_eq_getElem (by omega)] at this;exact this
   rw [eg];rfl
  ·rintro σ H' ⟨⟨v,rfl⟩,s,ep⟩;rw [← hll,take_length] at ep;symm;exact q _ _ f1 s ep
theorem zhI {H:Hp} {a b:Addr} {rs nm:LI} {Q:VK} {E:XK} (h1:LL K H a rs) (h2:LL K H b nm) (l1:rs.length≤8) (l2:nm.length≤20) (r2:∀ i,i < rs.length→(rs.getD i []).length=2) (q:∀ p H',H p=none→Same H H'→H' p=some (.lst ((za1 rs nm).map V.int))→Q (.ref p) H'):zep K [.ref a,.ref b] H Q E:=⟨rfl,a,b,rs,nm,rfl,h1,h2,l1,l2,r2,q⟩
def zeq (K:PySem.W.Frag):Sp:=fun vs H Q _=>vs.length=4∧∃ (a b c:Addr) (k:Int) (hs:List Int) (rs nm:LI),vs=[.ref a,.ref b,.ref c,.int k]∧SqL K H a (hs.map V.int)∧LL K H b rs∧LL K H c nm∧InB hs rs∧nm.length≤10∧1≤k∧k≤hs.length∧k≤nm.length∧∀ H',Same H H'→Q (.int (za7 hs rs (za1 rs nm) k (nm.getD (k-1).toNat []))) H'
theorem zgY (T:Txt K mg t):FnOk P w K mg base CX0 2 t.f_60 t.d_60 ["_law_homes","_law_staff","_law_names","_law_paper"] (zeq K):=by
 have G_59:=zgX (P:=P) (w:=w) (base:=base) T;refine T.F_60.ok sc_60 (fun _ _ _ _ h=>h.1) fun cdv A outer s H vs Q E hr h=>by
  refine ⟨_,(zab (zax (i:=4) sc_60.nd rfl (Or.inl rfl) (zal G_59 (hr.mono (by decide)) (by rfl) T.m_59 T.F_59.kp T.b_59 .nil zav (zaa (pv 1) (zaa (pv 2) pa_nil))))
   (zab (za2 PassesOwn.never rfl (zaX (by rfl) T.z_range (zaa (zag (zai (K:=K) rfl) (by rfl) T.z_len (by rfl) (zaa (pv 1) pa_nil)) pa_nil)) (zar (i:=5) sc_60.nd rfl (Or.inl rfl))
   (zab (zax (i:=6) sc_60.nd rfl (Or.inl rfl) (zgi (zb7 (zc8 (K:=K) rfl hr.units0) (zas (zaf (K:=K) rfl) (zas (zaf (K:=K) rfl) (pv 1) (pv 5) (fun _ _=>rfl)) zad (fun _ _=>rfl)) (zas (zaf (K:=K) rfl) (pv 0) (zat (op_sub) (pv 3) zad) (fun _ _=>rfl)) (zay _)) (zfs (zb7 (ze1 (K:=K) rfl (zdk hr)) (zat (op_addG) (pv 5) zad) (zas (zaf (K:=K) rfl) (pv 2) (zat (op_sub) (pv 3) zad) (fun _ _=>rfl)) (by with_unfolding_all rfl)))))
   (zae (zaS (zeF (zaw (K:=K) rfl (pv 6) (fun _=>rfl)) (zdu (zap (op_gt) (zas (zaf (K:=K) rfl) (pv 4) (pv 5) (fun _ _=>rfl)) zad (zay _)))).pt
   (zae (zak (zat (op_addG) (pv 5) zad))) pss_nil))))
   (zae (zak zad)))),?_⟩
  obtain ⟨_,a,b,c,k,hs,rs,nm,rfl,ha,LB,LC,BB,l10,k1,k2,k3,q⟩:=h;have B1:=BB.lp;have B2:=BB.lr;obtain ⟨ps,hb,hlb,hrb⟩:=id LB;obtain ⟨qs,hc,hlc,hrc⟩:=id LC;have hk:(k-1).toNat < nm.length:=by omega
  symm;refine zhI LB LC (by omega) (by omega) BB.r2 fun p1 H1 f1 s1 e1=>?_;have ha1:=s1.seq ha;have hb1:=s1.seq hb;have hc1:=s1.seq hc;have hrow1:=s1 _ _ (hrc _ hk);have hll:(za1 rs nm).length=rs.length:=by unfold za1;rw [length_map,length_range]
  symm;refine zb3 (by omega) (by omega) ?_;have en':((ps.length:Int)).toNat=rs.length:=by omega
  rw [en'];refine zb8 (fun i σ H'=>(∃ v5 v6,σ=[some (.ref a),some (.ref b),some (.ref c),some (.int k),some (.ref p1),v5,v6])∧H'=H1∧∀ j,j < i→fitT hs rs (za1 rs nm) k (nm.getD (k-1).toNat []) j=false) ⟨⟨none,none,rfl⟩,rfl,fun j hj=>absurd hj (by omega)⟩ ?_ ?_
  ·rintro i σ H' hi ⟨⟨v5,v6,rfl⟩,rfl,hall⟩;have hsrow:=s1 _ _ (hrb i hi);have hs2:=BB.r2 i hi;have e0:(0:Int)+(i:Int)=(i:Int):=by omega
   have ei:((i:Nat):Int).toNat=i:=by omega
   rw [e0];generalize hrw:nm.getD (k-1).toNat []=row at *;have hft:fitT hs rs (za1 rs nm) k row i=(!decide ((rs.getD i []).getD 0 0=hs.getD (k-1).toNat 0) && decide (1≤(za1 rs nm).getD i 0) && !decide ((i:Int)+1∈row)):=rfl;have ends:fitT hs rs (za1 rs nm) k row i=false→∀ j,j < i+1→fitT hs rs (za1 rs nm) k row j=false:=fun z j hj=>by
    by_cases e:j=i
    ·rw [e];exact z
    ·exact hall j (by omega)
   symm
   by_cases g1:(rs.getD i []).getD 0 0=hs.getD (k-1).toNat 0
   ·have g1':(rs.getD i []).getD (Int.toNat 0) 0=hs.getD (k-1).toNat 0:=g1;rw [decide_eq_true g1'];refine iteF ?_;symm;refine iteF ?_;refine iteF ?_;symm;exact ⟨⟨_,_,rfl⟩,rfl,ends (by rw [hft,decide_eq_true g1];rfl)⟩
   have g1':¬(rs.getD i []).getD (Int.toNat 0) 0=hs.getD (k-1).toNat 0:=g1;rw [decide_eq_false g1'];refine iteT ?_;symm
   by_cases g2:(i:Int)+1∈row
   ·rw [decide_eq_true g2];refine iteF ?_;refine iteF ?_;symm;exact ⟨⟨_,_,rfl⟩,rfl,ends (by rw [hft,decide_eq_true g2,Bool.not_true,Bool.and_false])⟩
   rw [decide_eq_false g2];refine iteT ?_;symm
   try rw [ei]
   refine zbk (fun g3=>?_) (fun g3=>?_)
   ·symm;have hok:fitT hs rs (za1 rs nm) k row i=true:=by rw [hft,decide_eq_false g1,decide_eq_false g2,decide_eq_true (show 1≤(za1 rs nm).getD i 0 by omega)];rfl
    have:za7 hs rs (za1 rs nm) k row=(i:Int)+1:=zgI hi hok hall;rw [← this];exact q _ s1
   ·symm;exact ⟨⟨_,_,rfl⟩,rfl,ends (by rw [hft,decide_eq_false (show ¬1≤(za1 rs nm).getD i 0 by omega),Bool.and_false];rfl)⟩
  ·rintro σ H' ⟨⟨v5,v6,rfl⟩,rfl,hall⟩;symm;have:za7 hs rs (za1 rs nm) k (nm.getD (k-1).toNat [])=0:=zib hall;rw [← this];exact q _ s1
theorem zhJ {H:Hp} {a b c:Addr} {k:Int} {hs:List Int} {rs nm:LI} {Q:VK} {E:XK} (h1:SqL K H a (hs.map V.int)) (h2:LL K H b rs) (h3:LL K H c nm) (B:InB hs rs) (l10:nm.length≤10) (k1:1≤k) (k2:k≤hs.length) (k3:k≤nm.length) (q:∀ H',Same H H'→Q (.int (za7 hs rs (za1 rs nm) k (nm.getD (k-1).toNat []))) H'):zeq K [.ref a,.ref b,.ref c,.int k] H Q E:=⟨rfl,a,b,c,k,hs,rs,nm,rfl,h1,h2,h3,B,l10,k1,k2,k3,q⟩
def zfj (K:PySem.W.Frag):Sp:=fun vs H Q _=>vs.length=6∧∃ (l:LdA) (o:Addr) (st:ExS) (k r p:Int),vs=[.ref l.a,.ref l.b,.int st.step,.ref l.c,.ref l.d,.ref o]∧Led H l st.hs st.rs st.nm st.en∧o∉l.all∧H o=some (.lst ([k,r,p].map V.int))∧1≤k∧k≤st.nm.length∧0≤p∧p≤100∧InB st.hs st.rs∧Wf st∧st.dl.isSome=true∧(∀ i,i < st.en.length→(st.en.getD i []).length=3)∧st.en.length≤900∧∀ H',(∀ b u,H b=some u→b≠l.d→b∉l.qs→H' b=some u)→Led H' { l with es:=l.es++[o] } st.hs st.rs (zaH (entS st (k-1).toNat r p) (k-1).toNat).nm (st.en++[[k,r,p]])→Q (.int (zaJ (entS st (k-1).toNat r p) (k-1).toNat)) H'
theorem zhK (T:Txt K mg t):FnOk P w K mg base CX0 3 t.f_61 t.d_61 ["_law_homes","_law_staff","_law_step_here","_law_names","_law_entries","_law_one"] (zfj K):=by
 have G_56:=zdc (P:=P) (w:=w) (base:=base) T;have G_60:=zgY (P:=P) (w:=w) (base:=base) T;refine T.F_61.ok sc_61 (fun _ _ _ _ h=>h.1) fun cdv A outer s H vs Q E hr h=>by
  refine ⟨_,(zab (zaK (zbK (K:=K) rfl PySem.F.plainAttrs_list PySem.F.slot_list_append PySem.F.type_list_append mt_append (pv 4) (zaa (pv 5) pa_nil)))
   (zab (zax (i:=6) sc_61.nd rfl (Or.inl rfl) (zal G_56 (hr.mono (by decide)) (by rfl) T.m_56 T.F_56.kp T.b_56 .nil zav (zaa (pv 3) (zaa (pv 4) (zaa (zas (zaf (K:=K) rfl) (pv 5) zad (fun _ _=>rfl)) pa_nil)))))
   (zab (zaS (zcv (zap (zbF (K:=K) rfl hr.units0) (zag (zai (K:=K) rfl) (by rfl) T.z_len (by rfl) (zaa (pv 6) pa_nil)) zad (zay _)) (zcv (zap (zeg (K:=K) rfl (zdk hr)) zbW (pv 6) (by with_unfolding_all rfl)) (zbX (zap (op_le) (zat (op_sub) (zag (zeW (K:=K) rfl rfl) (by rfl) T.z_max (by rfl) (zaa (pv 6) pa_nil)) (zag (zc3 (K:=K) rfl rfl) (by rfl) T.z_min (by rfl) (zaa (pv 6) pa_nil))) (pv 2) (zay _))))).pt
   (zae (zak zad)) pss_nil)
   (zab (zax (i:=7) sc_61.nd rfl (Or.inl rfl) (zal G_60 (hr.mono (by decide)) (by rfl) T.m_60 T.F_60.kp T.b_60 .nil zav (zaa (pv 0) (zaa (pv 1) (zaa (pv 3) (zaa (zas (zaf (K:=K) rfl) (pv 5) zad (fun _ _=>rfl)) pa_nil))))))
   (zab (zaS (zap (op_gt) (pv 7) zad (zay _))
   (zae (zaK (zbK (K:=K) rfl PySem.F.plainAttrs_list PySem.F.slot_list_append PySem.F.type_list_append mt_append (zas (zaf (K:=K) rfl) (pv 3) (zat (op_sub) (zas (zaf (K:=K) rfl) (pv 5) zad (fun _ _=>rfl)) zad) (fun _ _=>rfl)) (zaa (pv 7) pa_nil)))) pss_nil)
   (zae (zak (pv 7)))))))),?_⟩
  obtain ⟨_,l,o,st,k,r,p,rfl,L,ho,eo,k1,k2,p0,p1,BB,W,hd,e3,h9,q⟩:=h;have B1:=BB.lp;have B2:=BB.lr;have hln:=W.ln hd;have hk:(k-1).toNat < st.nm.length:=by omega
  have ek:((k-1).toNat:Int)+1=k:=by omega
  have hlr:=(W.row _ hk).len;have hle:=L.le;have hhd:=L.hd;have eo':H o=some (.lst [.int k,.int r,.int p]):=eo;symm;refine zaM L.hd (by rw [length_map];omega) fun H1 b1 e1=>?_;have L1:=L.entry ho eo b1 e1;have no:o≠l.d:=fun z=>ho (by rw [z];unfold LdA.all;simp);have eo1:H1 o=some (.lst [.int k,.int r,.int p]):=by rw [b1 _ no];exact eo
  have e3':∀ i,i < (st.en++[[k,r,p]]).length→((st.en++[[k,r,p]]).getD i []).length=3:=fun i hi=>by
   rw [length_append,length_singleton] at hi
   by_cases z:i < st.en.length
   ·rw [zaB z];exact e3 i z
   ·have:i=st.en.length:=by omega
    subst this;rw [zaC];rfl
  have een:(entS st (k-1).toNat r p).en=st.en++[[k,r,p]]:=by rw [zmo,ek]
  have hst1:(entS st (k-1).toNat r p).nm=st.nm:=rfl;have fr1:∀ b u,H b=some u→b≠l.d→H1 b=some u:=fun b u eb nb=>by rw [b1 _ nb];exact eb
  have stop:zaJ (entS st (k-1).toNat r p) (k-1).toNat=0→∀ H',Same H1 H'→Q (.int 0) H':=fun z H' s=>by
   have hm:zaH (entS st (k-1).toNat r p) (k-1).toNat=entS st (k-1).toNat r p:=by unfold zaH;rw [z];rfl
   rw [z,hm] at q;exact q H' (fun b u eb nb _=>s _ _ (fr1 b u eb nb)) (L1.same s)
  have hneed0:zbs (entS st (k-1).toNat r p) (k-1).toNat=false→zaJ (entS st (k-1).toNat r p) (k-1).toNat=0:=fun z=>by unfold zaJ;rw [z];rfl
  symm;refine zdC L1.lc L1.ld k1 k2 e3' (by omega) fun p2 H2 f2 s2 e2=>?_;have hg:=zc7 st.nm (st.en++[[k,r,p]]) (k-1).toNat;symm;rw [length_map];refine zbk (fun g1=>?_) (fun g1=>?_)
  ·refine iteT ?_;symm;refine stop (hneed0 ?_) H2 s2;unfold zbs;rw [hst1,decide_eq_false (by omega)];rfl
  have hl2:(st.nm.getD (k-1).toNat []).length=2:=by omega
  symm;refine zlB (SqL.of e2) ?_;symm;refine zbk (fun g2=>?_) (fun g2=>?_)
  ·refine iteT ?_;symm;refine stop (hneed0 ?_) H2 s2;unfold zbs;rw [hst1,een,decide_eq_false (zd5.mp g2),Bool.and_false];rfl
  have hw:zaF st.nm (st.en++[[k,r,p]]) (k-1).toNat=[]:=Decidable.byContradiction fun z=>g2 (zd5.mpr z);rw [zgH hw] at e2;have hpl:=zf1 st.nm (st.en++[[k,r,p]]) (k-1).toNat;obtain ⟨x,y,hxy⟩:∃ x y,ptsOf st.nm (st.en++[[k,r,p]]) (k-1).toNat=[x,y]:=by
   match hh:ptsOf st.nm (st.en++[[k,r,p]]) (k-1).toNat,(show (ptsOf st.nm (st.en++[[k,r,p]]) (k-1).toNat).length=2 by omega) with
   | [x,y],_=>exact ⟨x,y,rfl⟩
  rw [hxy] at e2;have hnd:zbs (entS st (k-1).toNat r p) (k-1).toNat = !zbm x y st.step:=by
   unfold zbs;rw [hst1,een,decide_eq_true hl2,decide_eq_true hw,hxy];rfl
  symm;refine zeX (SqL.of e2) (by simp) fun M hM hge=>?_;symm;refine zc4 (SqL.of e2) (by simp) fun m hm hle'=>?_;have c1:=hge x (by simp);have c2:=hge y (by simp);have c3:=hle' x (by simp);have c4:=hle' y (by simp);have c5:M=x∨M=y:=by simpa using hM
  have c6:m=x∨m=y:=by simpa using hm
  symm;refine zbk (fun g3=>?_) (fun g3=>?_)
  ·symm;refine stop (hneed0 ?_) H2 s2;rw [hnd,show zbm x y st.step=true from decide_eq_true (by omega)];rfl
  have hneed:zbs (entS st (k-1).toNat r p) (k-1).toNat=true:=by rw [hnd,show zbm x y st.step=false from decide_eq_false (by omega)];rfl
  have ht:zaJ (entS st (k-1).toNat r p) (k-1).toNat=za7 st.hs st.rs (za1 st.rs st.nm) k (st.nm.getD (k-1).toNat []):=by
   unfold zaJ;rw [hneed,ek];rfl
  have L2:=L1.same s2;have eo2:=s2 _ _ eo1;symm;refine zhJ (SqL.of L2.ha) L2.lb L2.lc BB (by omega) k1 (by omega) k2 fun H3 s3=>?_;rw [← ht];have s13:=s2.trans s3;have L3:=L1.same s13;have lq:=L.lq;symm;refine zbk (fun g4=>?_) (fun g4=>?_)
  ·have hc3:H3 l.c=some (.lst (l.qs.map V.ref)):=L3.hc;have hrow3:H3 (l.qs.getD (k-1).toNat 0)=some (.lst ((st.nm.getD (k-1).toNat []).map V.int)):=L3.rq _ hk;have eo3:=s13 _ _ eo1;symm;refine zaM hrow3 (by rw [length_map];omega) fun H4 b4 e4=>?_;have L4:=L3.name (row:=st.nm.getD (k-1).toNat []++[zaJ (entS st (k-1).toNat r p) (k-1).toNat]) hk b4 (by rw [e4,map_append];rfl);have hm:(zaH (entS st (k-1).toNat r p) (k-1).toNat).nm=st.nm.set (k-1).toNat (st.nm.getD (k-1).toNat []++[zaJ (entS st (k-1).toNat r p) (k-1).toNat]):=by unfold zaH;rw [if_pos g4];rfl
   rw [hm] at q;symm;refine q H4 (fun b u eb nb nq=>?_) L4;rw [b4 _ (fun z=>nq (by rw [z];exact zb0 (by omega)))];exact s13 _ _ (fr1 b u eb nb)
  ·symm;have hm:zaH (entS st (k-1).toNat r p) (k-1).toNat=entS st (k-1).toNat r p:=by unfold zaH;rw [if_neg g4]
   rw [hm] at q;exact q H3 (fun b u eb nb _=>s13 _ _ (fr1 b u eb nb)) L3
theorem zi2 {H:Hp} {l:LdA} {o:Addr} {st:ExS} {k r p:Int} {Q:VK} {E:XK} (L:Led H l st.hs st.rs st.nm st.en) (ho:o∉l.all) (eo:H o=some (.lst ([k,r,p].map V.int))) (k1:1≤k) (k2:k≤st.nm.length) (p0:0≤p) (p1:p≤100) (B:InB st.hs st.rs) (W:Wf st) (hd:st.dl.isSome=true) (e3:∀ i,i < st.en.length→(st.en.getD i []).length=3) (h9:st.en.length≤900) (q:∀ H',(∀ b u,H b=some u→b≠l.d→b∉l.qs→H' b=some u)→Led H' { l with es:=l.es++[o] } st.hs st.rs (zaH (entS st (k-1).toNat r p) (k-1).toNat).nm (st.en++[[k,r,p]])→Q (.int (zaJ (entS st (k-1).toNat r p) (k-1).toNat)) H'):zfj K [.ref l.a,.ref l.b,.int st.step,.ref l.c,.ref l.d,.ref o] H Q E:=⟨rfl,l,o,st,k,r,p,rfl,L,ho,eo,k1,k2,p0,p1,B,W,hd,e3,h9,q⟩
theorem zn1 (E:List E3):∀ i,i < (E.map rowE).length→((E.map rowE).getD i []).length=3:=fun i hi=>by
 rw [length_map] at hi;rw [getD_eq_getElem?_getD,getElem?_map,getElem?_eq_getElem hi];rfl
def OwnL (F:Addr→Prop) (l:LdA):Addr→Prop:=fun b=>F b∨b∈l.all
def zd1 (K:PySem.W.Frag) (C:Addr):Sp:=fun vs H Q _=>vs.length=7∧∃ (x m tb o:Addr) (z:V) (Hb:Hp) (F:Addr→Prop) (st:ExS) (l:LdA) (tab:LI) (k:Nat) (r:Int) (i:Nat),vs=[.ref x,.ref m,.int st.step,.ref l.c,.ref tb,.ref l.d,.ref o]∧Both C emp H x F st l∧Same Hb H∧(∀ y u,Hb y=some u→¬OwnL F l y)∧Hb m=some (.lst [.ref l.a,.ref l.b,z])∧LL K Hb tb tab∧(∀ i,i < tab.length→(tab.getD i []).length=3∧∀ x∈tab.getD i [],0≤x∧x≤100)∧tab.length=st.nm.length∧k < st.nm.length∧r∈zaF st.nm st.en k∧H o=some (.lst [.int ((k:Int)+1),.int r])∧¬OwnL F l o∧Run st i∧i≤800∧∀ H' F' es' jj,(st.nm.getD k []).getD jj 0=r→(∀ m,m < jj→(st.nm.getD k []).getD m 0≠r)→0≤(tab.getD k []).getD jj 0→(tab.getD k []).getD jj 0≤100→Both C emp H' x F' (zbH st (k,r,(tab.getD k []).getD jj 0)) { l with es:=es' }→ExFr H H' (OwnL F l) (OwnL F' { l with es:=es' })→Q (.bl true) H'
theorem zgd (T:Txt K mg t):FnOk P w K mg base CX0 6 t.f_67 t.d_67 ["_law_exam_here","_law_made","_law_step_here","_law_names","_law_table_here","_law_entries","_law_one"] (zd1 K t.C_Exam):=by
 have G_29:=zgc (P:=P) (w:=w) (base:=base) T;have G_61:=zhK (P:=P) (w:=w) (base:=base) T;have G_48:=zdb (P:=P) (w:=w) (base:=base) T;refine T.F_67.ok sc_67 (fun _ _ _ _ h=>h.1) fun cdv A outer s H vs Q E hr h=>by
  refine ⟨_,(zab (zax (i:=7) sc_67.nd rfl (Or.inl rfl) (zbK (K:=K) rfl PySem.F.plainAttrs_list PySem.F.slot_list_index PySem.F.type_list_index mt_index (zas (zaf (K:=K) rfl) (pv 3) (zat (op_sub) (zas (zaf (K:=K) rfl) (pv 6) zad (fun _ _=>rfl)) zad) (fun _ _=>rfl)) (zaa (zas (zaf (K:=K) rfl) (pv 6) zad (fun _ _=>rfl)) pa_nil)))
   (zab (zax (i:=8) sc_67.nd rfl (Or.inl rfl) (zas (zaf (K:=K) rfl) (zas (zaf (K:=K) rfl) (pv 4) (zat (op_sub) (zas (zaf (K:=K) rfl) (pv 6) zad (fun _ _=>rfl)) zad) (fun _ _=>rfl)) (pv 7) (fun _ _=>rfl)))
   (zab (zmy (fun _ _ z=>z) (zae (zax (i:=9) sc_67.nd rfl (Or.inl rfl) (zbh (pv 0) T.cl_Exam T.me_29 G_29 (hr.mono (by decide)) T.b_29 .nil zav (zaa (zas (zaf (K:=K) rfl) (pv 6) zad (fun _ _=>rfl)) (zaa (zas (zaf (K:=K) rfl) (pv 6) zad (fun _ _=>rfl)) (zaa (pv 8) pa_nil)))))))
   (zab (zax (i:=10) sc_67.nd rfl (Or.inl rfl) (zal G_61 (hr.mono (by decide)) (by rfl) T.m_61 T.F_61.kp T.b_61 .nil zav (zaa (zas (zaf (K:=K) rfl) (pv 1) zad (fun _ _=>rfl)) (zaa (zas (zaf (K:=K) rfl) (pv 1) zad (fun _ _=>rfl)) (zaa (pv 2) (zaa (pv 3) (zaa (pv 5) (zaa (zaN (zaa (zas (zaf (K:=K) rfl) (pv 6) zad (fun _ _=>rfl)) (zaa (zas (zaf (K:=K) rfl) (pv 6) zad (fun _ _=>rfl)) (zaa (pv 8) pa_nil)))) pa_nil))))))))
   (zae (zak (zgi (zal G_48 (hr.mono (by decide)) (by rfl) T.m_48 T.F_48.kp T.b_48 .nil zav (zaa (pv 9) pa_nil)) (zfs (zb7 (zbF (K:=K) rfl hr.units0) (pv 9) (pv 10) (zay _)))))))))),?_⟩
  obtain ⟨_,x,m,tb,o,z,Hb,F,st,l,tab,k,r,i,rfl,BB,sb,nb,em,LT,htr,htl,hk,hr1,eo,no,RN,hi,q⟩:=h;have W:=BB.ex.wf;have hrl:=RN.len;have l10:=BB.n10;have emH:=sb _ _ em;have ek:((k:Int)+1-1).toNat=k:=by omega
  have hc3:H l.c=some (.lst (l.qs.map V.ref)):=BB.led.hc;have hql:l.qs.length=st.nm.length:=BB.led.lq;have hrk:H (l.qs.getD k 0)=some (.lst ((st.nm.getD k []).map V.int)):=BB.led.rq k hk;have hrin:=(mem_filter.mp hr1).1;have hlr:=(W.row k hk).len;obtain ⟨pt,ht1,ht2,ht3⟩:=id (LT.same sb);have htk:=ht3 k (by omega);have h3l:=htr k (by omega);have h3l1:=h3l.1;symm;rw [ek];symm;refine ziQ hrk hrin fun jj hjj hjr hjm=>?_;have hpt:=h3l.2 ((tab.getD k []).getD jj 0) (getD_mem (by omega));have ejj:((jj:Nat):Int).toNat=jj:=by omega
  symm;rw [ek];symm
  try rw [ejj]
  generalize hpv:(tab.getD k []).getD jj 0=pv at *;have h9:st.en.length≤900:=by omega
  obtain ⟨dx4,fs4,hob4,hlk4⟩:=BB.ex.ob;refine zaO hob4 (hlk4 _ (by decide +kernel)) ?_;symm;refine zgW BB.ex BB.inb BB.dl (by omega) (by omega) (by rw [ek];exact hr1) hpt.1 hpt.2 h9 fun J5 F5 f5 E5=>?_;rw [ek] at E5 ⊢;have nF:∀ y∈l.all,¬F y:=BB.nf;have L5:Led J5 l st.hs st.rs st.nm st.en:=BB.led.keep fun b u hb e=>f5.kp b u e (nF b hb);have em5:=f5.kp _ _ emH (fun z=>nb _ _ em (.inl z));have eo5:=f5.kp _ _ eo (fun z=>no (.inl z));symm;refine zau (by simp) fun o2 J6 g6 s6 e6=>?_;have L6:=L5.same s6;have e6':J6 o2=some (.lst (([(k:Int)+1,r,pv]:List Int).map V.int)):=e6;have no2:o2∉l.all:=fun z=>by
   obtain ⟨u,eu⟩:=L5.mem z;rw [g6] at eu;cases eu
  have R':=RN.enter (p:=pv) W hk hr1;have een:(zaH (entS st k r pv) k).en=st.en++[[(k:Int)+1,r,pv]]:=by rw [zeC];rfl
  symm;refine zi2 (l:=l) (st:=st) (k:=(k:Int)+1) (r:=r) (p:=pv) L6 no2 e6' (by omega) (by omega) hpt.1 hpt.2 BB.inb W BB.dl BB.e3 h9 fun J7 fr7 L7=>?_;rw [ek] at L7 ⊢;have md:l.d∈l.all:=zho.1.2.2.2;have nF5:∀ y∈l.all,¬F5 y:=fun y hy z=>(f5.fp y z).elim (nF y hy) fun e=>by
   obtain ⟨u,eu⟩:=BB.led.mem hy;rw [e] at eu;cases eu
  have nF5o:¬F5 o2:=E5.new g6;have E7:ExAt t.C_Exam J7 x F5 (zaH (entS st k r pv) k):=(E5.same s6).keep fun b u hb e=>fr7 b u e (fun z=>nF5 l.d md (z▸hb)) (fun z=>nF5 b (zho.2.2.1 _ z) hb);have BB7:Both t.C_Exam emp J7 x F5 (zaH (entS st k r pv) k) { l with es:=l.es++[o2] }:=⟨E7,by rw [zf3,zf4];exact BB.inb,zie rfl,by rw [zf3,zf4,een];exact L7,fun b hb=>(zih hb).elim (nF5 b) (fun z=>by rw [z];exact nF5o),(fun _ _ z=>by cases z),(fun _ _ z=>by cases z),(fun _ _=>rfl),R'.e3⟩
  symm;refine iteT ?_;symm;rw [decide_eq_true (rfl:zaJ (entS st k r pv) k=zaJ (entS st k r pv) k)];refine q J7 F5 (l.es++[o2]) jj hjr hjm (by rw [hpv];exact hpt.1) (by rw [hpv];exact hpt.2) (by rw [hpv];exact BB7) ⟨fun b u eb nb'=>?_,fun b hb=>?_⟩
  ·exact fr7 _ _ (s6 _ _ (f5.kp _ _ eb (fun z=>nb' (.inl z)))) (fun z=>nb' (.inr (by rw [z];exact md))) (fun z=>nb' (.inr (zho.2.2.1 _ z)))
  ·rcases hb with hb | hb
   ·exact (f5.fp b hb).elim (fun z=>.inl (.inl z)) .inr
   ·rcases zih hb with z | z
    ·exact .inl (.inr z)
    ·cases hh:H b with
     | none=>exact .inr rfl
     | some u =>
       by_cases hF:F b
       ·exact .inl (.inl hF)
       ·have:=f5.kp _ _ hh hF;rw [z,g6] at this;cases this
theorem zgZ {C x m tb o c d:Addr} {z:V} {Hb H:Hp} {F:Addr→Prop} {st:ExS} (l:LdA) {tab:LI} (k:Nat) (r s:Int) {i:Nat} {Q:VK} {E:XK} (hs:s=st.step) (hc:c=l.c) (hd:d=l.d) (BB:Both C emp H x F st l) (sb:Same Hb H) (nb:∀ y u,Hb y=some u→¬OwnL F l y) (em:Hb m=some (.lst [.ref l.a,.ref l.b,z])) (LT:LL K Hb tb tab) (htr:∀ i,i < tab.length→(tab.getD i []).length=3∧∀ x∈tab.getD i [],0≤x∧x≤100) (htl:tab.length=st.nm.length) (hk:k < st.nm.length) (hr1:r∈zaF st.nm st.en k) (eo:H o=some (.lst [.int ((k:Int)+1),.int r])) (no:¬OwnL F l o) (RN:Run st i) (hi:i≤800) (q:∀ H' F' es' jj,(st.nm.getD k []).getD jj 0=r→(∀ m,m < jj→(st.nm.getD k []).getD m 0≠r)→0≤(tab.getD k []).getD jj 0→(tab.getD k []).getD jj 0≤100→Both C emp H' x F' (zbH st (k,r,(tab.getD k []).getD jj 0)) { l with es:=es' }→ExFr H H' (OwnL F l) (OwnL F' { l with es:=es' })→Q (.bl true) H'):zd1 K C [.ref x,.ref m,.int s,.ref c,.ref tb,.ref d,.ref o] H Q E:=by
 subst hs hc hd;exact ⟨rfl,x,m,tb,o,z,Hb,F,st,l,tab,k,r,i,rfl,BB,sb,nb,em,LT,htr,htl,hk,hr1,eo,no,RN,hi,q⟩
def okF (ap:Nat→Bool) (en:LI) (la:List Nat) (ord:Option (List Nat)) (k:Nat):Bool:=match ord with
 | none=>true
 | some la1=>!zbS ap en k || decide (la1.getD la.length 0=k)
structure zi3 (ap:Nat→Bool) (n:Nat) (la1:List Nat):Prop where
 nd:la1.Nodup
 mem:∀ k,k∈la1↔(ap k=true∧k < n)
theorem zge {ap:Nat→Bool} {en:LI} {n k:Nat} {la la1 z:List Nat} (FO:zi3 ap n la1) (hz:la1=la++z) (hm:∀ k,k∈la↔(ap k=true∧2≤inOf en k)) (hk:k < n) (hl:zbS ap en k=true):la.length < la1.length:=by
 unfold zbS at hl;simp only [Bool.and_eq_true,decide_eq_true_eq] at hl;have h1:k∈la1:=(FO.mem k).mpr ⟨hl.2,hk⟩;have h2:k∉la:=fun h=>by have:=((hm k).mp h).2;omega
 rw [hz,mem_append] at h1;have h3:=h1.resolve_left h2;have:=List.length_pos_of_mem h3;rw [hz,length_append];omega
theorem zlp {hs:List Int} {rs tt:LI} {stp:Int} {tab:Nat→List Int} {L:List E3} {la:List Nat} (T:Lat hs rs tt stp tab L la) (h2:∀ k,k < tt.length→(tt.getD k []).length=2) {ord:Option (List Nat)} (hord:∀ la1,ord=some la1→zi3 (apT tab stp) tt.length la1∧∃ z,la1=la++z) (hd:dueB (runS (S0 hs rs tt stp) L).nm (L.map rowE)≠[]):∃ k r,k < (runS (S0 hs rs tt stp) L).nm.length∧r∈zaF (runS (S0 hs rs tt stp) L).nm (L.map rowE) k∧okF (apT tab stp) (L.map rowE) la ord k=true:=by
 have g4:(runS (S0 hs rs tt stp) L).nm.length=tt.length:=(zda (S0 hs rs tt stp) L).2.2.2;obtain ⟨x,hx⟩:=List.exists_mem_of_ne_nil _ hd;obtain ⟨k,r,hk,hr,rfl⟩:=zkb hx
 cases ord with
 | none=>exact ⟨k,r,hk,hr,rfl⟩
 | some la1 =>
   obtain ⟨FO,z,hz⟩:=hord la1 rfl
   cases hl:zbS (apT tab stp) (L.map rowE) k with
   | false=>exact ⟨k,r,hk,hr,by show (!zbS _ _ _ || _)=true;rw [hl];rfl⟩
   | true =>
     have hlt:=zge FO hz T.mem (by omega) hl;have hkm:la1.getD la.length 0∈la1:=getD_mem hlt;obtain ⟨ha,hkn⟩:=(FO.mem _).mp hkm;have hnl:la1.getD la.length 0∉la:=fun h=>by
      have nd:=FO.nd;have e:la1.getD la.length 0=z.getD 0 0:=by
       rw [hz,getD_eq_getElem?_getD,getD_eq_getElem?_getD,getElem?_append_right (by omega)];simp
      have hz0:0 < z.length:=by rw [hz,length_append] at hlt;omega
      have hm:la1.getD la.length 0∈z:=by rw [e];exact getD_mem hz0
      rw [hz] at nd;rw [nodup_append] at nd;exact nd.2.2 _ h _ hm rfl
     have hin:¬2≤inOf (L.map rowE) (la1.getD la.length 0):=fun h=>hnl ((T.mem _).mpr ⟨ha,h⟩);have hkn':la1.getD la.length 0 < (runS (S0 hs rs tt stp) L).nm.length:=by omega
     have hc:=zc9 (runS (S0 hs rs tt stp) L).nm (L.map rowE) (la1.getD la.length 0);have hkn2:=T.kn _ hkn';rw [en0] at hkn2;obtain ⟨w,ew⟩:=T.gr.row _ hkn;have hl2:(tt.getD (la1.getD la.length 0) []++w).length=(tt.getD (la1.getD la.length 0) []).length+w.length:=length_append;rw [← ew,h2 _ hkn] at hl2;have hwn:zaF (runS (S0 hs rs tt stp) L).nm (L.map rowE) (la1.getD la.length 0)≠[]:=fun h=>by rw [h,length_nil] at hc;omega
     obtain ⟨r',hr'⟩:=List.exists_mem_of_ne_nil _ hwn;exact ⟨_,r',hkn',hr',by show (!zbS _ _ _ || decide _)=true;rw [decide_eq_true rfl,Bool.or_true]⟩
def zfM (K:PySem.W.Frag) (C:Addr):Sp:=fun vs H Q _=>vs.length=7∧∃ (x m c tb cw:Addr) (z ov:V) (Hb:Hp) (F:Addr→Prop) (a b:Addr) (ps qs:List Addr) (hs:List Int) (rs tt tab:LI) (stp:Int) (cs:List Int) (ord:Option (List Nat)),vs=[.ref x,.ref m,.int stp,.ref c,.ref tb,ov,.ref cw]∧Same Hb H∧(∀ y u,Hb y=some u→¬F y∧y∉a::b::c::(ps++qs))∧Hb m=some (.lst [.ref a,.ref b,z])∧LL K Hb tb tab∧(∀ i,i < tab.length→(tab.getD i []).length=3∧∀ x∈tab.getD i [],0≤x∧x≤100)∧tab.length=tt.length∧SqL K Hb cw (cs.map V.int)∧cs.length=30∧((ord=none∧ov=.non)∨∃ la1 ow,ord=some la1∧ov=.ref ow∧SqL K Hb ow ((la1.map fun k:Nat=>(k:Int)+1).map V.int)∧(∃ zs,Hb ow=some (.lst zs))∧zi3 (apT (fun k=>tab.getD k []) stp) tt.length la1)∧InB hs rs∧Wf (S0 hs rs tt stp)∧(∀ k,k < tt.length→(tt.getD k []).length=2)∧(∀ k,k < tt.length→(tt.getD k []).getD 0 0≠(tt.getD k []).getD 1 0)∧(∀ d H1,H d=none→Same H H1→H1 d=some (.lst [])→Both C emp H1 x F (S0 hs rs tt stp) ⟨a,b,c,d,ps,qs,[]⟩)∧∀ H' F' d es L la pr lw,Lat hs rs tt stp (fun k=>tab.getD k []) L la→(∀ la1,ord=some la1→∃ z,la1=la++z)→dueB (runS (S0 hs rs tt stp) L).nm (L.map rowE)=[]→Both C emp H' x F' (runS (S0 hs rs tt stp) L) ⟨a,b,c,d,ps,qs,es⟩→H' pr=some (.lst [.ref lw,.ref d])→H' lw=some (.lst ((la.map fun k:Nat=>(k:Int)+1).map V.int))→(H pr=none∨F pr)→H lw=none→H d=none→(∀ y∈es,H y=none∨F y)→(∀ y u,H y=some u→¬F y→y∉a::b::c::(ps++qs)→H' y=some u)→(∀ y,F' y→F y∨H y=none)→¬F' pr→¬F' lw→Q (.ref pr) H'
theorem zi4 (T:Txt K mg t):FnOk P w K mg base CX0 7 t.f_68 t.d_68 ["_law_exam_here","_law_made","_law_step_here","_law_names","_law_table_here","_law_order","_law_cells"] (zfM K t.C_Exam):=by
 have G_57:=zfr (P:=P) (w:=w) (base:=base) T;have G_66:=zhD (P:=P) (w:=w) (base:=base) T;have G_67:=zgd (P:=P) (w:=w) (base:=base) T;refine T.F_68.ok sc_68 (fun _ _ _ _ h=>h.1) fun cdv A outer s H vs Q E hr h=>by
  refine ⟨_,(zab (zax (i:=7) sc_68.nd rfl (Or.inl rfl) (zaN pa_nil))
   (zab (zax (i:=8) sc_68.nd rfl (Or.inl rfl) (zaN pa_nil))
   (zab (za2 PassesOwn.never rfl (zaI (K:=K) rfl (pv 6)) (zar (i:=9) sc_68.nd rfl (Or.inl rfl))
   (zab (zax (i:=10) sc_68.nd rfl (Or.inl rfl) (zaN pa_nil))
   (zab (za2 PassesOwn.never rfl (zaI (K:=K) rfl (zal G_57 (hr.mono (by decide)) (by rfl) T.m_57 T.F_57.kp T.b_57 .nil zav (zaa (pv 3) (zaa (pv 7) pa_nil)))) (zar (i:=11) sc_68.nd rfl (Or.inl rfl))
   (zab (zax (i:=12) sc_68.nd rfl (Or.inl rfl) (zn5 (zb7 (op_isNN) (pv 5) zbW (zay _)) (zfs (zjd (zal G_66 (hr.mono (by decide)) (by rfl) T.m_66 T.F_66.kp T.b_66 .nil zav (zaa (pv 2) (zaa (pv 4) (zaa (pv 7) (zaa (pv 11) pa_nil)))))))))
   (zae (zaS (zcv (zaw (K:=K) rfl (pv 12) (fun _=>rfl)) (zbX (zap (zbF (K:=K) rfl hr.units0) (zas (zaf (K:=K) rfl) (pv 11) zad (fun _ _=>rfl)) (zas (zaf (K:=K) rfl) (pv 5) (zag (zai (K:=K) rfl) (by rfl) T.z_len (by rfl) (zaa (pv 8) pa_nil)) (fun _ _=>rfl)) (zay _)))).pt
   (zae (zaK (zbK (K:=K) rfl PySem.F.plainAttrs_list PySem.F.slot_list_append PySem.F.type_list_append mt_append (pv 10) (zaa (pv 11) pa_nil)))) pss_nil))))
   (zab (zaS (zap (zbF (K:=K) rfl hr.units0) (pv 10) (zaN pa_nil) (zay _))
   (zae ps_break) pss_nil)
   (zab (zax (i:=11) sc_68.nd rfl (Or.inl rfl) (zas (zaf (K:=K) rfl) (pv 10) (zat (op_mod) (pv 9) (zag (zai (K:=K) rfl) (by rfl) T.z_len (by rfl) (zaa (pv 10) pa_nil))) (fun _ _=>rfl)))
   (zab (zaS (zaw (K:=K) rfl (zal G_66 (hr.mono (by decide)) (by rfl) T.m_66 T.F_66.kp T.b_66 .nil zav (zaa (pv 2) (zaa (pv 4) (zaa (pv 7) (zaa (pv 11) pa_nil))))) (fun _=>rfl))
   (zae (zaK (zbK (K:=K) rfl PySem.F.plainAttrs_list PySem.F.slot_list_append PySem.F.type_list_append mt_append (pv 8) (zaa (zas (zaf (K:=K) rfl) (pv 11) zad (fun _ _=>rfl)) pa_nil)))) pss_nil)
   (zae (zaS (zbd (zaw (K:=K) rfl (zal G_67 (hr.mono (by decide)) (by rfl) T.m_67 T.F_67.kp T.b_67 .nil zav (zaa (pv 0) (zaa (pv 1) (zaa (pv 2) (zaa (pv 3) (zaa (pv 4) (zaa (pv 7) (zaa (pv 11) pa_nil)))))))) (fun _=>rfl)))
   (zae (zak zbW)) pss_nil))))))))
   (zae (zak (zaN (zaa (pv 8) (zaa (pv 7) pa_nil)))))))),?_⟩
  obtain ⟨_,x,m,c,tb,cw,z,ov,Hb,F,a,b,ps,qs,hs,rs,tt,tab,stp,cs,ord,rfl,sb,nb,em,LT,htr,htl,hcw,hc30,hov,B,W0,h2,hne,hled,q⟩:=h;have hln:tt.length=hs.length:=W0.ln rfl;have B1:=B.lp;symm;refine zau (by decide) fun d H1 f1 s1 e1=>?_;have BB1:=hled d H1 f1 s1 e1;symm;refine zau (by decide) fun lw H2 f2 s2 e2=>?_;have BB2:=BB1.grow s2;have flw:H lw=none:=s1.free f2;have ndl:d≠lw:=fun zz=>by rw [zz,f2] at e1;cases e1
  walk_at "st";refine zdw (fun σ H'=>∃ (F':Addr→Prop) (es:List Addr) (L:List E3) (la:List Nat) (v9 v10 v11 v12:Option V),σ=[some (.ref x),some (.ref m),some (.int stp),some (.ref c),some (.ref tb),some ov,some (.ref cw),some (.ref d),some (.ref lw),v9,v10,v11,v12]∧Both t.C_Exam emp H' x F' (runS (S0 hs rs tt stp) L) ⟨a,b,c,d,ps,qs,es⟩∧Lat hs rs tt stp (fun k=>tab.getD k []) L la∧(∀ la1,ord=some la1→∃ z,la1=la++z)∧H' lw=some (.lst ((la.map fun k:Nat=>(k:Int)+1).map V.int))∧¬F' lw∧(∀ y∈es,H y=none∨F y)∧lw∉es∧(∀ y u,H y=some u→¬F y→y∉a::b::c::(ps++qs)→H' y=some u)∧(∀ y,F' y→F y∨H y=none)∧dueB (runS (S0 hs rs tt stp) L).nm (L.map rowE)=[]) ?_ ?_
  ·intro nx' hnx;symm;refine zaT ((sb.trans (s1.trans s2)).seq hcw) ?_;refine zbL (xs:=cs.map V.int) (fun j σ H'=>∃ (F':Addr→Prop) (es:List Addr) (L:List E3) (la:List Nat) (v9 v10 v11 v12:Option V),σ=[some (.ref x),some (.ref m),some (.int stp),some (.ref c),some (.ref tb),some ov,some (.ref cw),some (.ref d),some (.ref lw),v9,v10,v11,v12]∧Both t.C_Exam emp H' x F' (runS (S0 hs rs tt stp) L) ⟨a,b,c,d,ps,qs,es⟩∧Lat hs rs tt stp (fun k=>tab.getD k []) L la∧(∀ la1,ord=some la1→∃ z,la1=la++z)∧H' lw=some (.lst ((la.map fun k:Nat=>(k:Int)+1).map V.int))∧¬F' lw∧(∀ y∈es,H y=none∨F y)∧lw∉es∧(∀ y u,H y=some u→¬F y→y∉a::b::c::(ps++qs)→H' y=some u)∧(∀ y,F' y→F y∨H y=none)∧L.length=j) ⟨F,[],[],[],none,none,none,none,rfl,BB2,Lat.new,fun la1 _=>⟨la1,rfl⟩,e2,BB1.ex.new f2,fun y hy=>absurd hy (by simp),by simp,fun y u e _ _=>s2 _ _ (s1 _ _ e),fun y h=>.inl h,rfl⟩ ?_ ?_ ?_
   ·rintro j σ H' _ ⟨F',es,L,la,v9,v10,v11,v12,rfl,BB,T,hpre,elw,nlw,hes,nle,fr,fp,hLl⟩;refine Same.seq (fun y u e=>fr y u (sb _ _ e) (nb y u e).1 (nb y u e).2) hcw
   ·rintro j yv σ H' hy ⟨F',es,L,la,v9,v10,v11,v12,rfl,BB,T,hpre,elw,nlw,hes,nle,fr,fp,hLl⟩;obtain ⟨hj,rfl⟩:=zcq hy;have sbH:Same Hb H':=fun y u e=>fr y u (sb _ _ e) (nb y u e).1 (nb y u e).2;have nbH:∀ y u,Hb y=some u→¬OwnL F' ⟨a,b,c,d,ps,qs,es⟩ y:=fun y u e hh=>by
     rcases hh with hh | hh
     ·exact (fp y hh).elim (nb y u e).1 fun zz=>by rw [sb _ _ e] at zz;cases zz
     ·unfold LdA.all at hh;simp only [mem_cons,mem_append] at hh;have hn2:=(nb y u e).2;simp only [mem_cons,mem_append,not_or] at hn2;rcases hh with hh | hh | hh | hh | hh | hh | hh
      ·exact hn2.1 hh
      ·exact hn2.2.1 hh
      ·exact hn2.2.2.1 hh
      ·rw [hh] at e;have:=sb _ _ e;rw [f1] at this;cases this
      ·exact hn2.2.2.2.1 hh
      ·exact hn2.2.2.2.2 hh
      ·rcases hes y hh with w | w
       ·rw [sb _ _ e] at w;cases w
       ·exact (nb y u e).1 w
    have W:=BB.ex.wf;obtain ⟨g1,g2,g3,g4⟩:=zda (S0 hs rs tt stp) L;have g3:(runS (S0 hs rs tt stp) L).step=stp:=g3;have g4:(runS (S0 hs rs tt stp) L).nm.length=tt.length:=g4;have gen:=en0 (hs:=hs) (rs:=rs) (tt:=tt) (stp:=stp) L;have hdue:=BB.due;have hd30:=zlx W;have hrow:=W.row;rw [gen] at hdue hd30 hrow;have hm30:(L.map rowE).length≤30:=by rw [length_map,hLl];omega
    have he3:=zn1 L;have LdJ:LL K H' d (runS (S0 hs rs tt stp) L).en:=BB.led.ld;rw [gen] at LdJ;generalize hst:runS (S0 hs rs tt stp) L=st at *;symm;refine zau (by decide) fun pf J1 fpf t1 xpf=>?_;walk_at "st";refine zdw (fun σ J=>∃ (v11 v12:Option V) (fs:List Addr),σ=[some (.ref x),some (.ref m),some (.int stp),some (.ref c),some (.ref tb),some ov,some (.ref cw),some (.ref d),some (.ref lw),some (.int (cs.getD j 0)),some (.ref pf),v11,v12]∧(∀ y u,J1 y=some u→y≠pf→J y=some u)∧J pf=some (.lst (fs.map V.ref))∧fs.length≤30∧(fs=[]→dueB st.nm (L.map rowE)=[])∧(∀ y∈fs,J1 y=none∧y≠pf∧∃ k r,k < st.nm.length∧r∈zaF st.nm (L.map rowE) k∧J y=some (.lst [.int ((k:Int)+1),.int r])∧okF (apT (fun k=>tab.getD k []) stp) (L.map rowE) la ord k=true)) ?_ ?_
    ·intro nx2 hnx2;symm;refine zgb (BB.led.lc.same t1) (LdJ.same t1) (by omega) he3 hrow fun w2 J2 R2=>?_;obtain ⟨sW,nW,pw,hw1,hw2,hwn,hw4⟩:=id R2;have npf:pf≠w2:=fun zz=>by rw [zz,nW] at xpf;cases xpf
     have npw:∀ i,i < pw.length→pw.getD i 0≠pf:=fun i hi zz=>by
      have:=(hw4 i (by omega)).2.1;rw [zz,xpf] at this;cases this
     have xpf2:=R2.same _ _ xpf;have rowk:∀ i,i < pw.length→∃ k r,k < st.nm.length∧r∈zaF st.nm (L.map rowE) k∧(dueB st.nm (L.map rowE)).getD i []=[(k:Int)+1,r]:=fun i hi=>by
      obtain ⟨k,r,h1,h2',h3⟩:=zkb (getD_mem (d:=[]) (show i < (dueB st.nm (L.map rowE)).length by omega));exact ⟨k,r,h1,h2',h3⟩
     refine zaT (SqL.of hw1) ?_;refine zbL (xs:=pw.map V.ref) (fun j2 σ J=>∃ (v11 v12:Option V) (fs:List Addr),σ=[some (.ref x),some (.ref m),some (.int stp),some (.ref c),some (.ref tb),some ov,some (.ref cw),some (.ref d),some (.ref lw),some (.int (cs.getD j 0)),some (.ref pf),v11,v12]∧(∀ y u,J2 y=some u→y≠pf→J y=some u)∧J pf=some (.lst (fs.map V.ref))∧fs.length≤j2∧(∀ i,i < j2→∀ (k:Nat) (r:Int),(dueB st.nm (L.map rowE)).getD i []=[(k:Int)+1,r]→okF (apT (fun k=>tab.getD k []) stp) (L.map rowE) la ord k=true→fs≠[])∧∀ y∈fs,∃ i,i < pw.length∧y=pw.getD i 0∧∃ k r,k < st.nm.length∧r∈zaF st.nm (L.map rowE) k∧(dueB st.nm (L.map rowE)).getD i []=[(k:Int)+1,r]∧okF (apT (fun k=>tab.getD k []) stp) (L.map rowE) la ord k=true) ⟨_,_,[],rfl,fun y u e _=>e,xpf2,Nat.le_refl _,fun i hi=>absurd hi (by omega),fun y hy=>absurd hy (by simp)⟩ ?_ ?_ ?_
     ·rintro j2 σ J _ ⟨v11,v12,fs,_,k1,_⟩;exact SqL.of (k1 _ _ hw1 npf.symm)
     ·rintro j2 y2 σ J hy2 ⟨v11,v12,fs,rfl,k1,xf,hfl,hall,hfs⟩;obtain ⟨hj2,rfl⟩:=zfU hy2;obtain ⟨k,r,hk,hr,hkr⟩:=rowk j2 hj2;have hrw:=(hw4 j2 (by omega)).1;rw [hkr] at hrw;have hrwJ:J (pw.getD j2 0)=some (.lst [.int ((k:Int)+1),.int r]):=k1 _ _ hrw (npw j2 hj2);have fin:∀ (bb:Bool) (J':Hp) (fs':List Addr),okF (apT (fun k=>tab.getD k []) stp) (L.map rowE) la ord k=bb→(bb=true→fs'=fs++[pw.getD j2 0])→(bb=false→fs'=fs)→(fs'.length≤j2+1)∧(∀ i,i < j2+1→∀ (k:Nat) (r:Int),(dueB st.nm (L.map rowE)).getD i []=[(k:Int)+1,r]→okF (apT (fun k=>tab.getD k []) stp) (L.map rowE) la ord k=true→fs'≠[])∧∀ y∈fs',∃ i,i < pw.length∧y=pw.getD i 0∧∃ k r,k < st.nm.length∧r∈zaF st.nm (L.map rowE) k∧(dueB st.nm (L.map rowE)).getD i []=[(k:Int)+1,r]∧okF (apT (fun k=>tab.getD k []) stp) (L.map rowE) la ord k=true:=fun bb J' fs' hb h1 h0=>by
       cases bb with
       | true =>
         rw [h1 rfl];refine ⟨by rw [length_append,length_singleton];omega,fun i hi k' r' _ _=>by simp,fun y hy=>?_⟩;rcases mem_append.mp hy with zz | zz
         ·exact hfs y zz
         ·exact ⟨j2,hj2,mem_singleton.mp zz,k,r,hk,hr,hkr,hb⟩
       | false =>
         rw [h0 rfl];refine ⟨by omega,fun i hi k' r' e1 e2=>?_,hfs⟩
         by_cases hij:i < j2
         ·exact hall i hij k' r' e1 e2
         ·have hij:i=j2:=by omega
          subst hij;rw [hkr] at e1;injection e1 with e3 _;have:k'=k:=by omega
          subst this;rw [hb] at e2;cases e2
      generalize pw.getD j2 0=yj at *;rcases hov with ⟨rfl,rfl⟩ | ⟨la1,ow,rfl,rfl,how,⟨zz0,hzz0⟩,FO⟩
      ·symm;refine iteT ?_;symm;refine iteT (iteT ?_);symm;refine zaM xf (by rw [length_map];omega) fun J' b' x'=>?_;obtain ⟨n1,n2,n3⟩:=fin true J' (fs++[yj]) rfl (fun _=>rfl) (fun zz=>by cases zz);symm;exact ⟨_,_,fs++[yj],rfl,fun y u e n=>by rw [b' _ n];exact k1 y u e n,by rw [x',map_append];rfl,n1,n2,n3⟩
      ·have SHJ:Same H' J:=fun y u e=>k1 _ _ (R2.same _ _ (t1 _ _ e)) (fun zz=>by rw [zz,fpf] at e;cases e);have SbJ:Same Hb J:=sbH.trans SHJ;obtain ⟨zp,hzp⟩:=hpre la1 rfl;symm;rw [decide_eq_false (show ¬V.ref ow=V.non by intro zz;cases zz)];refine iteF ?_;symm;refine zfL (tab:=tab) (en:=L.map rowE) k r (LT.same SbJ) (fun i hi=>(htr i hi).1) (LdJ.same SHJ) he3 (by omega) hrwJ (by omega) (by omega) fun J' s'=>?_;have xf':=s' _ _ xf;have hrwJ':=s' _ _ hrwJ;have elw':=s' _ _ (SHJ _ _ elw);have how':=(SbJ.trans s').seq how;have k1':∀ y u,J2 y=some u→y≠pf→J' y=some u:=fun y u e n=>s' _ _ (k1 y u e n);symm;refine zm3 (fun hb=>?_) (fun hb=>?_)
       ·refine iteT ?_;symm;refine zaM xf' (by rw [length_map];omega) fun J3 b3 x3=>?_;obtain ⟨n1,n2,n3⟩:=fin true J3 (fs++[yj]) (by show (!zbS _ _ _ || _)=true;rw [hb];rfl) (fun _=>rfl) (fun zz=>by cases zz);symm;exact ⟨_,_,fs++[yj],rfl,fun y u e n=>by rw [b3 _ n];exact k1' y u e n,by rw [x3,map_append];rfl,n1,n2,n3⟩
       ·have hlb:zbS (apT (fun k=>tab.getD k []) stp) (L.map rowE) k=true:=by simpa using hb
        have hlt:=zge FO hzp T.mem (by omega) hlb;have hl1:(la1.map fun k:Nat=>(k:Int)+1).length=la1.length:=length_map ..;have hl2:(la.map fun k:Nat=>(k:Int)+1).length=la.length:=length_map ..;have hgd:(la1.map fun k:Nat=>(k:Int)+1).getD la.length 0=((la1.getD la.length 0:Nat):Int)+1:=by
         rw [getD_eq_getElem?_getD,getElem?_map,getElem?_eq_getElem hlt,getD_eq_getElem?_getD,getElem?_eq_getElem hlt];rfl
        symm;have eln:(((la.map fun k:Nat=>(k:Int)+1).length:Nat):Int).toNat=la.length:=by omega
        try rw [eln]
        try rw [hgd]
        refine zbk (fun he=>?_) (fun he=>?_)
        ·symm;refine zaM xf' (by rw [length_map];omega) fun J3 b3 x3=>?_;obtain ⟨n1,n2,n3⟩:=fin true J3 (fs++[yj]) (by show (!zbS _ _ _ || decide (la1.getD la.length 0=k))=true;rw [decide_eq_true (by omega),Bool.or_true]) (fun _=>rfl) (fun zz=>by cases zz);symm;exact ⟨_,_,fs++[yj],rfl,fun y u e n=>by rw [b3 _ n];exact k1' y u e n,by rw [x3,map_append];rfl,n1,n2,n3⟩
        ·obtain ⟨n1,n2,n3⟩:=fin false J' fs (by show (!zbS _ _ _ || decide (la1.getD la.length 0=k))=false;rw [hlb,decide_eq_false (by omega)];rfl) (fun zz=>by cases zz) (fun _=>rfl);walk_at "rdk";exact ⟨_,_,fs,rfl,k1',xf',n1,n2,n3⟩
     ·rintro σ J ⟨v11,v12,fs,rfl,k1,xf,hfl,hall,hfs⟩;rw [length_map] at hall hfl;refine hnx2 _ _ ⟨_,_,fs,rfl,fun y u e n=>k1 y u (R2.same _ _ e) n,xf,by omega,fun hf0=>?_,fun y hy=>?_⟩
      ·refine Decidable.byContradiction fun hdn=>?_;obtain ⟨k,r,hk,hr,hok⟩:=zlp T h2 (ord:=ord) (fun la1 ho=>⟨by
        rcases hov with ⟨h1,_⟩ | ⟨la1',ow,h1,_,_,_,FO⟩
        ·rw [h1] at ho;cases ho
        ·rw [h1] at ho;cases ho;exact FO,hpre la1 ho⟩) (by rw [hst];exact hdn)
       rw [hst] at hk hr;have hm:[(k:Int)+1,r]∈dueB st.nm (L.map rowE):=by
        unfold dueB;exact List.mem_flatMap.mpr ⟨k,mem_range.mpr hk,mem_map.mpr ⟨r,hr,rfl⟩⟩
       obtain ⟨i,hi,ei⟩:=L2.mem_getD (d:=[]) hm;exact hall i (by omega) k r ei hok hf0
      ·obtain ⟨i,hi,rfl,k,r,hk,hr,hkr,hok⟩:=hfs y hy;have h4:=hw4 i (by omega);have h41:=h4.1;rw [hkr] at h41;exact ⟨h4.2.1,npw i hi,k,r,hk,hr,k1 _ _ h41 (npw i hi),hok⟩
    rintro σ J ⟨v11,v12,fs,rfl,kJ,xf,hfl,hfe,hfs⟩;have SHJ:Same H' J:=fun y u e=>kJ _ _ (t1 _ _ e) (fun zz=>by rw [zz,fpf] at e;cases e);have SbJ:Same Hb J:=sbH.trans SHJ;have BBJ:=BB.grow SHJ;symm;refine zau (by decide) fun w3 J3 g3' s3 e3'=>?_;symm;refine znM (SqL.of (s3 _ _ xf)) (SqL.of e3') ?_;symm;refine zbk (fun g=>?_) (fun g=>?_)
    ·have hf0:fs=[]:=by simpa using g
     symm;exact hnx _ _ ⟨F',es,L,la,_,_,_,_,rfl,by rw [hst];exact BBJ.grow s3,T,hpre,s3 _ _ (SHJ _ _ elw),nlw,hes,nle,fun y u e n1 n2=>s3 _ _ (SHJ _ _ (fr y u e n1 n2)),fp,by rw [hst];exact hfe hf0⟩
    have hfn:fs≠[]:=fun zz=>g (by rw [zz];rfl);have hfpos:0 < fs.length:=List.length_pos_iff.mpr hfn;have xf3:=s3 _ _ xf;symm;have hm0:=Int.emod_nonneg (cs.getD j 0) (show ((fs.length:Nat):Int)≠0 by omega);have hm1:=Int.emod_lt_of_pos (cs.getD j 0) (show (0:Int) < ((fs.length:Nat):Int) by omega);generalize hjj:cs.getD j 0 % ((fs.length:Nat):Int)=jf at *;walk_at "st";obtain ⟨yn,yp,k,r,hk,hr,hrw,hok⟩:=hfs _ (getD_mem (d:=0) (show jf.toNat < fs.length by omega));generalize fs.getD jf.toNat 0=yo at *;have hrw3:=s3 _ _ hrw;have SH3:=SHJ.trans s3;have Sb3:=SbJ.trans s3;have BB3:=BBJ.grow s3;have elw3:=SH3 _ _ elw;have hyo:H' yo=none:=t1.free yn;refine zdw (fun σ J'=>σ=[some (.ref x),some (.ref m),some (.int stp),some (.ref c),some (.ref tb),some ov,some (.ref cw),some (.ref d),some (.ref lw),some (.int (cs.getD j 0)),some (.ref pf),some (.ref yo),v12]∧(∀ y u,J3 y=some u→y≠lw→J' y=some u)∧J' lw=some (.lst (((la++if zbS (apT (fun k=>tab.getD k []) stp) (L.map rowE) k=true then [k] else []).map fun k:Nat=>(k:Int)+1).map V.int))) ?_ ?_
    ·intro nx3 hnx3;symm;refine zfL (tab:=tab) (en:=L.map rowE) k r (LT.same Sb3) (fun i hi=>(htr i hi).1) (LdJ.same SH3) he3 (by omega) hrw3 (by omega) (by omega) fun J4 s4=>?_;have elw4:=s4 _ _ elw3;have hrw4:=s4 _ _ hrw3;have hlal:la.length≤30:=by have:=T.ll;omega
     symm;refine zm3 (fun hb=>?_) (fun hb=>?_)
     ·symm;refine zaM elw4 (by rw [length_map,length_map];omega) fun J5 b5 x5=>?_;symm;exact hnx3 _ _ ⟨rfl,fun y u e n=>by rw [b5 _ n];exact s4 _ _ e,by rw [x5,hb,if_pos rfl,map_append,map_append];rfl⟩
     ·symm;exact hnx3 _ _ ⟨rfl,fun y u e n=>s4 _ _ e,by rw [hb,if_neg (by decide),append_nil];exact elw4⟩
    rintro σ J4 ⟨rfl,k4,xl4⟩;have nlall:lw∉(⟨a,b,c,d,ps,qs,es⟩:LdA).all:=fun hh=>by
     have base:∀ y∈(⟨a,b,c,d,ps,qs,[]⟩:LdA).all,y≠lw:=fun y hy zz=>by
      obtain ⟨u,eu⟩:=BB1.led.mem hy;rw [zz,f2] at eu;cases eu
     unfold LdA.all at hh base;simp only [mem_cons,mem_append,append_nil,not_mem_nil,or_false] at hh base;rcases hh with hh | hh | hh | hh | hh | hh | hh
     ·exact base a (.inl rfl) hh.symm
     ·exact base b (.inr (.inl rfl)) hh.symm
     ·exact base c (.inr (.inr (.inl rfl))) hh.symm
     ·exact ndl hh.symm
     ·exact base lw (.inr (.inr (.inr (.inr (.inl hh))))) rfl
     ·exact base lw (.inr (.inr (.inr (.inr (.inr hh))))) rfl
     ·exact nle hh
    have BB4:Both t.C_Exam emp J4 x F' st ⟨a,b,c,d,ps,qs,es⟩:=⟨BB3.ex.keep fun y u hy e=>k4 y u e (fun zz=>nlw (zz▸hy)),BB3.inb,BB3.dl,BB3.led.keep fun y u hy e=>k4 y u e (fun zz=>nlall (zz▸hy)),BB3.nf,(fun _ _ zz=>by cases zz),(fun _ _ zz=>by cases zz),(fun _ _=>rfl),BB3.e3⟩
    have Sb4:Same Hb J4:=fun y u e=>k4 y u (Sb3 _ _ e) (fun zz=>by have:=sb _ _ e;rw [zz,flw] at this;cases this);have hyl:yo≠lw:=fun zz=>by rw [zz,elw] at hyo;cases hyo
    have nyo:¬OwnL F' ⟨a,b,c,d,ps,qs,es⟩ yo:=fun hh=>by
     rcases hh with hh | hh
     ·exact BB.ex.new hyo hh
     ·obtain ⟨u,eu⟩:=BB.led.mem hh;rw [hyo] at eu;cases eu
    have hr':r∈zaF st.nm st.en k:=by rw [gen];exact hr
    have RNL:=T.run;rw [hst] at RNL;symm;refine zgZ (tab:=tab) ⟨a,b,c,d,ps,qs,es⟩ k r stp g3.symm rfl rfl BB4 Sb4 nbH em LT htr (by omega) hk hr' (k4 _ _ hrw3 hyl) nyo RNL (by omega) fun H5 F5 es5 jj hjr hjm p0 p1 BB5 fr5=>?_;have hkt:k < tt.length:=by omega
    have GR:=T.gr;rw [hst] at GR;have hpo:=znS (tab:=fun k=>tab.getD k []) GR hkt (h2 k hkt) (hne k hkt) hjr hjm;have hjl:jj < (st.nm.getD k []).length:=Nat.lt_of_not_le fun hle=>by
     have h0:(st.nm.getD k []).getD jj 0=0:=by rw [getD_eq_getElem?_getD,List.getElem?_eq_none hle];rfl
     have hrg:=(hrow k hk).rng (mem_filter.mp hr).1;rw [hjr] at h0;omega
    have T5:=T.step (e:=(k,r,(tab.getD k []).getD jj 0)) W0 h2 hne (by rw [hst];exact ⟨hk,hr',p0,p1⟩) hpo (by rw [hst];exact ⟨jj,hjl,hjr,hjm,rfl⟩);have nlO:¬OwnL F' ⟨a,b,c,d,ps,qs,es⟩ lw:=fun hh=>hh.elim nlw nlall;have xl5:=fr5.kp _ _ xl4 nlO;have hrun:runS (S0 hs rs tt stp) (L++[(k,r,(tab.getD k []).getD jj 0)])=zbH st (k,r,(tab.getD k []).getD jj 0):=by rw [zdi,hst]
    have inAll:∀ y,y∈(⟨a,b,c,d,ps,qs,es⟩:LdA).all→y=d∨y∈a::b::c::(ps++qs)∨y∈es:=fun y hy=>by
     unfold LdA.all at hy;simp only [mem_cons,mem_append] at hy ⊢;rcases hy with hh | hh | hh | hh | hh | hh | hh
     ·exact .inr (.inl (.inl hh))
     ·exact .inr (.inl (.inr (.inl hh)))
     ·exact .inr (.inl (.inr (.inr (.inl hh))))
     ·exact .inl hh
     ·exact .inr (.inl (.inr (.inr (.inr (.inl hh)))))
     ·exact .inr (.inl (.inr (.inr (.inr (.inr hh)))))
     ·exact .inr (.inr hh)
    have toAll:∀ y (e':List Addr),y∈a::b::c::(ps++qs)→y∈(⟨a,b,c,d,ps,qs,e'⟩:LdA).all:=fun y e' hy=>by
     unfold LdA.all;simp only [mem_cons,mem_append] at hy ⊢;rcases hy with hh | hh | hh | hh | hh
     ·exact .inl hh
     ·exact .inr (.inl hh)
     ·exact .inr (.inr (.inl hh))
     ·exact .inr (.inr (.inr (.inr (.inl hh))))
     ·exact .inr (.inr (.inr (.inr (.inr (.inl hh)))))
    have up4:∀ y u,H' y=some u→y≠lw→J4 y=some u:=fun y u e n=>k4 _ _ (SH3 _ _ e) n;have back:∀ y,J4 y=none→H y=none∨F y:=fun y hy=>by
     cases hh:H y with
     | none=>exact .inl rfl
     | some u =>
       have nl:y≠lw:=fun zz=>by rw [zz,flw] at hh;cases hh
       by_cases hF:F y
       ·exact .inr hF
       ·by_cases hq:y∈a::b::c::(ps++qs)
        ·obtain ⟨u',eu⟩:=BB.led.mem (toAll y es hq);rw [up4 _ _ eu nl] at hy;cases hy
        ·rw [up4 _ _ (fr y u hh hF hq) nl] at hy;cases hy
    have nd5:=BB5.led.nd;have offes:∀ y,y∈es5→y≠d∧y∉a::b::c::(ps++qs):=fun y hy=>by
     unfold LdA.all at nd5;simp only [nodup_cons,mem_cons,mem_append,not_or,nodup_append] at nd5 ⊢;refine ⟨fun zz=>nd5.2.2.2.1.2.2 (zz▸hy),fun zz=>nd5.1.2.2.2.2.2 (zz▸hy),fun zz=>nd5.2.1.2.2.2.2 (zz▸hy),fun zz=>nd5.2.2.1.2.2.2 (zz▸hy),fun zz=>nd5.2.2.2.2.2.2 y zz y (.inr hy) rfl,fun zz=>nd5.2.2.2.2.2.1.2.2 y zz y hy rfl⟩
    have mem5:∀ y,y∈es5→y∈(⟨a,b,c,d,ps,qs,es5⟩:LdA).all:=fun y hy=>by
     unfold LdA.all;simp only [mem_cons,mem_append];exact .inr (.inr (.inr (.inr (.inr (.inr hy)))))
    symm;refine iteF ?_;symm;refine ⟨F5,es5,L++[(k,r,(tab.getD k []).getD jj 0)],la++(if zbS (apT (fun k=>tab.getD k []) stp) (L.map rowE) k=true then [k] else []),_,_,_,_,rfl,by rw [hrun];exact BB5,T5,fun la1 ho=>?_,xl5,fun hh=>?_,fun y hy=>?_,fun hh=>?_,fun y u e n1 n2=>?_,fun y hy=>?_,by rw [length_append,length_singleton,hLl]⟩
    ·obtain ⟨zp,hzp⟩:=hpre la1 ho
     cases hlb:zbS (apT (fun k=>tab.getD k []) stp) (L.map rowE) k with
     | false=>rw [if_neg (by decide),append_nil];exact ⟨zp,hzp⟩
     | true =>
       rw [if_pos rfl];have FO:zi3 (apT (fun k=>tab.getD k []) stp) tt.length la1:=by
        rcases hov with ⟨h1,_⟩ | ⟨la1',ow,h1,_,_,_,FO⟩
        ·rw [h1] at ho;cases ho
        ·rw [h1] at ho;cases ho;exact FO
       have hok':(!zbS (apT (fun k=>tab.getD k []) stp) (L.map rowE) k || decide (la1.getD la.length 0=k))=true:=by
        have hok2:=hok;rw [ho] at hok2;exact hok2
       rw [hlb] at hok';have hek:la1.getD la.length 0=k:=of_decide_eq_true (by simpa using hok');have hlt:=zge FO hzp T.mem (by omega) hlb
       cases zp with
       | nil=>rw [hzp] at hlt;simp at hlt
       | cons w zp =>
         have hw:w=k:=by
          rw [hzp,getD_eq_getElem?_getD,getElem?_append_right (Nat.le_refl _)] at hek;simpa using hek
         exact ⟨zp,by rw [hzp,hw,append_assoc];rfl⟩
    ·rcases fr5.fp lw (.inl hh) with zz | zz
     ·exact nlO zz
     ·rw [xl4] at zz;cases zz
    ·rcases fr5.fp y (.inr (mem5 y hy)) with zz | zz
     ·rcases zz with zz | zz
      ·exact (fp y zz).symm
      ·rcases inAll y zz with w | w | w
       ·exact absurd w (offes y hy).1
       ·exact absurd w (offes y hy).2
       ·exact hes y w
     ·exact back y zz
    ·rcases fr5.fp lw (.inr (mem5 lw hh)) with zz | zz
     ·exact nlO zz
     ·rw [xl4] at zz;cases zz
    ·have nl:y≠lw:=fun zz=>by rw [zz,flw] at e;cases e
     refine fr5.kp _ _ (up4 _ _ (fr y u e n1 n2) nl) fun hh=>?_;rcases hh with hh | hh
     ·rcases fp y hh with w | w
      ·exact n1 w
      ·rw [e] at w;cases w
     ·rcases inAll y hh with w | w | w
      ·rw [w,f1] at e;cases e
      ·exact n2 w
      ·rcases hes y w with v | v
       ·rw [e] at v;cases v
       ·exact n1 v
    ·rcases fr5.fp y (.inl hy) with zz | zz
     ·rcases zz with zz | zz
      ·exact fp y zz
      ·rcases inAll y zz with w | w | w
       ·exact .inr (by rw [w];exact f1)
       ·exact absurd hy (BB5.nf y (toAll y es5 w))
       ·exact (hes y w).symm
     ·exact (back y zz).symm
   ·rintro σ H' ⟨F',es,L,la,v9,v10,v11,v12,rfl,BB,T,hpre,elw,nlw,hes,nle,fr,fp,hLl⟩;have W:=BB.ex.wf;have g4:(runS (S0 hs rs tt stp) L).nm.length=tt.length:=(zda (S0 hs rs tt stp) L).2.2.2;rw [length_map,hc30] at hLl;have hd:=T.run.done W (by rw [g4,hLl];omega);rw [en0] at hd;exact hnx _ _ ⟨F',es,L,la,_,_,_,_,rfl,BB,T,hpre,elw,nlw,hes,nle,fr,fp,hd⟩
  rintro σ H' ⟨F',es,L,la,v9,v10,v11,v12,rfl,BB,T,hpre,elw,nlw,hes,nle,fr,fp,hd⟩;symm;refine zau (by simp) fun pr H3 f3 s3 e3=>?_;symm;have fpr:H pr=none∨F pr:=by
   cases hh:H pr with
   | none=>exact .inl rfl
   | some u =>
     by_cases hF:F pr
     ·exact .inr hF
     ·by_cases hq:pr∈a::b::c::(ps++qs)
      ·obtain ⟨u',eu⟩:=BB.led.mem (b:=pr) (by unfold LdA.all;simp only [mem_cons,mem_append] at hq ⊢;rcases hq with hq | hq | hq | hq | hq <;> simp [hq]);rw [f3] at eu;cases eu
      ·have:=fr pr u hh hF hq;rw [f3] at this;cases this
  exact q H3 F' d es L la pr lw T hpre hd (BB.grow s3) e3 (s3 _ _ elw) fpr flw f1 hes (fun y u e n1 n2=>s3 _ _ (fr y u e n1 n2)) fp (BB.ex.new f3) nlw
theorem zg0 {C x m c tb cw:Addr} {z ov:V} {Hb H:Hp} {F:Addr→Prop} {a b:Addr} {ps qs:List Addr} {hs:List Int} {rs tt tab:LI} {stp:Int} {cs:List Int} (ord:Option (List Nat)) {Q:VK} {E:XK} (sb:Same Hb H) (nb:∀ y u,Hb y=some u→¬F y∧y∉a::b::c::(ps++qs)) (em:Hb m=some (.lst [.ref a,.ref b,z])) (LT:LL K Hb tb tab) (htr:∀ i,i < tab.length→(tab.getD i []).length=3∧∀ x∈tab.getD i [],0≤x∧x≤100) (htl:tab.length=tt.length) (hcw:SqL K Hb cw (cs.map V.int)) (hc30:cs.length=30) (hov:(ord=none∧ov=.non)∨∃ la1 ow,ord=some la1∧ov=.ref ow∧SqL K Hb ow ((la1.map fun k:Nat=>(k:Int)+1).map V.int)∧(∃ zs,Hb ow=some (.lst zs))∧zi3 (apT (fun k=>tab.getD k []) stp) tt.length la1) (B:InB hs rs) (W0:Wf (S0 hs rs tt stp)) (h2:∀ k,k < tt.length→(tt.getD k []).length=2) (hne:∀ k,k < tt.length→(tt.getD k []).getD 0 0≠(tt.getD k []).getD 1 0) (hled:∀ d H1,H d=none→Same H H1→H1 d=some (.lst [])→Both C emp H1 x F (S0 hs rs tt stp) ⟨a,b,c,d,ps,qs,[]⟩) (q:∀ H' F' d es L la pr lw,Lat hs rs tt stp (fun k=>tab.getD k []) L la→(∀ la1,ord=some la1→∃ z,la1=la++z)→dueB (runS (S0 hs rs tt stp) L).nm (L.map rowE)=[]→Both C emp H' x F' (runS (S0 hs rs tt stp) L) ⟨a,b,c,d,ps,qs,es⟩→H' pr=some (.lst [.ref lw,.ref d])→H' lw=some (.lst ((la.map fun k:Nat=>(k:Int)+1).map V.int))→(H pr=none∨F pr)→H lw=none→H d=none→(∀ y∈es,H y=none∨F y)→(∀ y u,H y=some u→¬F y→y∉a::b::c::(ps++qs)→H' y=some u)→(∀ y,F' y→F y∨H y=none)→¬F' pr→¬F' lw→Q (.ref pr) H'):zfM K C [.ref x,.ref m,.int stp,.ref c,.ref tb,ov,.ref cw] H Q E:=⟨rfl,x,m,c,tb,cw,z,ov,Hb,F,a,b,ps,qs,hs,rs,tt,tab,stp,cs,ord,rfl,sb,nb,em,LT,htr,htl,hcw,hc30,hov,B,W0,h2,hne,hled,q⟩
def zdF (K:PySem.W.Frag) (C:Addr):Sp:=fun vs H Q _=>vs.length=1∧∃ (x:Addr) (F:Addr→Prop) (st:ExS),vs=[.ref x]∧ExAt C H x F st∧InB st.hs st.rs∧(∀ p H',RowsAt H p (dueS st) H'→Q (.ref p) H')
theorem zhL (T:Txt K mg t):FnOk P w K mg base CX0 2 t.f_36 t.d_36 ["self"] (zdF K t.C_Exam):=by
 have G_42:=zbc (P:=P) (w:=w) (base:=base) T;refine T.F_36.ok sc_36 (fun _ _ _ _ h=>h.1) fun cdv A outer s H vs Q E hr h=>by
  refine ⟨_,(zab (zax (i:=1) sc_36.nd rfl (Or.inl rfl) (zaN pa_nil))
   (zab (za2 PassesOwn.never rfl (zb6 (by rfl) T.z_range (zaa zad (zaa (zat (op_addG) (zag (zai (K:=K) rfl) (by rfl) T.z_len (by rfl) (zaa (zaG (K:=K) rfl (pv 0)) pa_nil)) zad) pa_nil))) (zar (i:=2) sc_36.nd rfl (Or.inr rfl))
   (zae (zaK (zbK (K:=K) rfl PySem.F.plainAttrs_list PySem.F.slot_list_extend PySem.F.type_list_extend mt_extend (pv 1) (zaa (zba (zaq (sc:=zac s_36) (XN:=["self","rows","paper"]) (N:=["reader","paper"]) (own:=1) (js:=[2]) rfl rfl (by decide +kernel)) rfl (zaI (K:=K) rfl (zbh (pv 0) T.cl_Exam T.me_42 G_42 (hr.mono (by decide)) T.b_42 .nil zav (zaa (pv 2) pa_nil))) (fun _ _ _ _ _=>(zar (i:=0) (show List.Nodup [(Str.ofString "reader"),(Str.ofString "paper")] by decide +kernel) rfl (Or.inl rfl))) (fun _ _ _ _ _=>zbl) (fun _ _ _ _ _=>(zaN (zaa (pv 1) (zaa (pv 0) pa_nil))))) pa_nil)))))
   (zae (zak (pv 1))))),?_⟩
  obtain ⟨_,x,F,st,rfl,E0,BB,q⟩:=h;have B1:=BB.lp;have B2:=BB.lr;have E0':=E0;walk_at "hd";have lq:=I.lq;have l10:=I.wf.n10 BB;symm;refine zau (by decide) fun p1 H1 f1 s1 e1=>?_;have hob1:=s1 _ _ hob;have hhc1:=s1 _ _ hhc;symm;refine zeN ⟨by omega,by omega,by omega,by omega⟩ ?_;have en:((e.qs.length:Int)+1-1).toNat=st.nm.length:=by omega
  rw [en];refine zb8 (fun i σ H'=>(∃ v,σ=[some (.ref e.x),some (.ref p1),v])∧RowsAt H p1 ((List.range i).flatMap fun k=>(zaF st.nm st.en k).map fun r=>[(k:Int)+1,r]) H'∧((List.range i).flatMap fun k=>(zaF st.nm st.en k).map fun r=>[(k:Int)+1,r]).length≤3 * i) ⟨⟨none,rfl⟩,RowsAt.start f1 s1 e1,by simp⟩ ?_ ?_
  ·rintro i σ H' hi ⟨⟨v,rfl⟩,R,hlen⟩;have E':=E0'.same R.same;have ek:(1+(i:Int)-1).toNat=i:=by omega
   have hw:=zhn st.nm st.en i;have hlr:=(I.wf.row i hi).len;obtain ⟨zs',z',_⟩:=R.lst;symm;refine zbj E' BB (k:=1+(i:Int)) (by omega) (by omega) (fun Q z=>zd3 (i:=2) rfl z) fun p2 H2 f2 s2 e2=>?_;rw [ek] at e2;refine zaT (SqL.of e2) ?_;refine zcj (zca (zcr.one (zbe (SqL.of e2))) (by rw [length_map];omega) (fun j=>[(i:Int)+1,(zaF st.nm st.en i).getD j 0]) (fun j H3 Q' hj s3 q'=>?_) fun p3 H3 R3=>?_)
   ·rw [length_map] at hj;have ex:((zaF st.nm st.en i).map V.int).getD j .non=.int ((zaF st.nm st.en i).getD j 0):=zcz hj;rw [ex];show (_:TE) (some (.int _)::some (.int (1+(i:Int)))::_) _ _;symm;rw [Int.add_comm 1 (i:Int)];refine zau (by simp) fun p4 H4 f4 s4 e4=>?_;exact q' p4 H4 f4 s4 e4
   ·have er:(List.range ((zaF st.nm st.en i).map V.int).length).map (fun j=>[(i:Int)+1,(zaF st.nm st.en i).getD j 0])=(zaF st.nm st.en i).map fun r=>[(i:Int)+1,r]:=by
     rw [length_map]
     conv=>rhs;rw [← zct (zaF st.nm st.en i) 0]
     rw [map_map];rfl
    rw [er] at R3;have R':RowsAt H p1 _ H2:=⟨R.same.trans s2,R.new,by obtain ⟨ps,a1,a2,a3,a4⟩:=R.rows;exact ⟨ps,s2 _ _ a1,a2,a3,fun j hj=>⟨s2 _ _ (a4 j hj).1,(a4 j hj).2⟩⟩⟩
    obtain ⟨zs,zs2,z1,z2,z3,z4,zz⟩:=R'.ext (H3:=H3) R3;rw [length_map] at z4;obtain ⟨zs,zs2,z1,z2,z3,z4,_⟩:=R'.ext (H3:=H3) R3;rw [length_map] at z4;symm;refine zlc z1 z2 (by omega) fun H4 b4 e4=>?_;obtain ⟨ys,ys2,y1,y2,y3,y4,yy⟩:=R'.ext (H3:=H4) R3;have eq1:ys=zs:=by rw [y1] at z1;exact HO.lst.inj (Option.some.inj z1)
    have eq2:ys2=zs2:=by rw [y2] at z2;exact HO.lst.inj (Option.some.inj z2)
    rw [eq1,eq2] at yy;symm;refine ⟨⟨_,rfl⟩,?_,?_⟩
    ·rw [zc6 _ _ _ hi];exact yy b4 e4
    ·rw [zc6 _ _ _ hi,length_append,length_map];omega
  ·rintro σ H' ⟨⟨v,rfl⟩,R,_⟩;symm;exact q p1 H' R
theorem zi5 {K:PySem.W.Frag} {C x:Addr} {H:Hp} {F:Addr→Prop} {st:ExS} {Q:VK} {E:XK} (h:ExAt C H x F st) (B:InB st.hs st.rs) (q:(∀ p H',RowsAt H p (dueS st) H'→Q (.ref p) H')):zdF K C [.ref x] H Q E:=⟨rfl,x,F,st,rfl,h,B,q⟩
theorem zi6 {K:PySem.W.Frag} {C x:Addr} {H:Hp} {F:Addr→Prop} {st:ExS} {Q:VK} {E:XK} {σ:L2.St} (h:ExAt C H x F st) (B:InB st.hs st.rs) (q:(∀ p H',RowsAt H p (dueS st) H'→Q (.ref p) H')):zbp C "due" (zdF K C) E tNil σ (.ref x) H Q:=by
 obtain ⟨dx,fs,e,l⟩:=h.ob;exact zaO e (l _ (by decide +kernel)) (zes (zi5 h B q))
def zfk (K:PySem.W.Frag):Sp:=fun vs H Q _=>vs.length=2∧∃ (a:Addr) (xs:List Int) (s:Int),vs=[.ref a,.int s]∧SqL K H a (xs.map V.int)∧(xs.length=2∨xs.length=3)∧(∀ x∈xs,0≤x∧x≤100)∧∀ p H',H p=none→Same H H'→H' p=some (.lst ((MarkB xs s).map V.int))→Q (.ref p) H'
theorem zhM (T:Txt K mg t):FnOk P w K mg base CX0 1 t.f_58 t.d_58 ["_law_given_here","_law_step_here"] (zfk K):=by
 refine T.F_58.ok sc_58 (fun _ _ _ _ h=>h.1) fun cdv A outer s H vs Q E hr h=>by
  refine ⟨_,(zab (zaS (zap (zbF (K:=K) rfl hr.units0) (zag (zai (K:=K) rfl) (by rfl) T.z_len (by rfl) (zaa (pv 0) pa_nil)) zad (zay _))
   (zae (zak (zaN (zaa (zat (op_sub) (zat (op_sub) (zag (zc2 (K:=K) rfl rfl) (by rfl) T.z_sum (by rfl) (zaa (pv 0) pa_nil)) (zag (zc3 (K:=K) rfl rfl) (by rfl) T.z_min (by rfl) (zaa (pv 0) pa_nil))) (zag (zeW (K:=K) rfl rfl) (by rfl) T.z_max (by rfl) (zaa (pv 0) pa_nil))) (zaa zad pa_nil))))) pss_nil)
   (zab (zaS (zap (op_gt) (zat (op_sub) (zag (zeW (K:=K) rfl rfl) (by rfl) T.z_max (by rfl) (zaa (pv 0) pa_nil)) (zag (zc3 (K:=K) rfl rfl) (by rfl) T.z_min (by rfl) (zaa (pv 0) pa_nil))) (pv 1) (zay _))
   (zae (zak (zaN (zaa (zag (zc3 (K:=K) rfl rfl) (by rfl) T.z_min (by rfl) (zaa (pv 0) pa_nil)) (zaa zad pa_nil))))) pss_nil)
   (zab (zaS (zap (zbF (K:=K) rfl hr.units0) (zat (op_mod) (zag (zc2 (K:=K) rfl rfl) (by rfl) T.z_sum (by rfl) (zaa (pv 0) pa_nil)) zad) zad (zay _))
   (zae (zak (zaN (zaa (zag (zc2 (K:=K) rfl rfl) (by rfl) T.z_sum (by rfl) (zaa (pv 0) pa_nil)) (zaa zad pa_nil))))) pss_nil)
   (zae (zak (zaN (zaa (zat (op_fdivB) (zag (zc2 (K:=K) rfl rfl) (by rfl) T.z_sum (by rfl) (zaa (pv 0) pa_nil)) zad) (zaa zad pa_nil)))))))),?_⟩
  obtain ⟨_,a,xs,s,rfl,ha,hl,hb,q⟩:=h;have hb':∀ z∈xs,0≤z∧z≤1000000:=fun z hz=>by have:=hb z hz;omega
  symm;rcases hl with hl | hl
  ·match xs,hl with
   | [x,y],_ =>
     have hx:=hb x (by simp);have hy:=hb y (by simp);rw [zlf] at q;unfold zfn at q;have es:[x,y].sum=x+y:=by simp
     refine iteF ?_;symm;refine zeX ha (by simp) fun M hM hge=>?_;symm;refine zc4 ha (by simp) fun m hm hle=>?_;have e1:=hge x (by simp);have e2:=hge y (by simp);have e3:=hle x (by simp);have e4:=hle y (by simp);have e5:M=x∨M=y:=by simpa using hM
     have e6:m=x∨m=y:=by simpa using hm
     have em:m=min2 x y:=by unfold min2;split <;> omega
     symm;refine zbk (fun g=>?_) (fun g=>?_)
     ·have eg:zbm x y s=false:=decide_eq_false (by omega);rw [eg] at q;symm;refine zc4 ha (by simp) fun m' hm' hle'=>?_;have f3:=hle' x (by simp);have f4:=hle' y (by simp);have f6:m'=x∨m'=y:=by simpa using hm'
      have ef:m'=min2 x y:=by unfold min2;split <;> omega
      symm;refine zau (by simp) fun p H1 f1 s1 e1=>?_;rw [ef] at e1;exact q p H1 f1 s1 e1
     ·have eg:zbm x y s=true:=decide_eq_true (by omega);rw [eg] at q;symm;refine zdN ha hb' (by simp) ?_;rw [es];symm;refine zbk (fun g2=>?_) (fun g2=>?_)
      ·rw [if_pos g2] at q;symm;refine zdN ha hb' (by simp) ?_;rw [es];symm;refine zau (by simp) fun p H1 f1 s1 e1=>?_;exact q p H1 f1 s1 e1
      ·rw [if_neg g2] at q;symm;refine zdN ha hb' (by simp) ?_;rw [es];symm;refine zau (by simp) fun p H1 f1 s1 e1=>?_;exact q p H1 f1 s1 e1
  ·match xs,hl with
   | [x,y,z],_ =>
     rw [ziM] at q;have es:[x,y,z].sum=x+y+z:=by simp;omega
     refine iteT ?_;symm;refine zdN ha hb' (by simp) ?_;rw [es];symm;refine zc4 ha (by simp) fun m hm hle=>?_;symm;refine zeX ha (by simp) fun M hM hge=>?_;have e1:=hge x (by simp);have e2:=hge y (by simp);have e2':=hge z (by simp);have e3:=hle x (by simp);have e4:=hle y (by simp);have e4':=hle z (by simp);have e5:M=x∨M=y∨M=z:=by simpa using hM
     have e6:m=x∨m=y∨m=z:=by simpa using hm
     have em:x+y+z-m-M=mid3 x y z:=by
      unfold mid3 min2 max2
      repeat' split
      all_goals omega
     symm;refine zau (by simp) fun p H1 f1 s1 e1=>?_;rw [em] at e1;exact q p H1 f1 s1 e1
theorem zi7 {H:Hp} {a:Addr} {xs:List Int} {s:Int} {Q:VK} {E:XK} (h1:SqL K H a (xs.map V.int)) (h2:xs.length=2∨xs.length=3) (h3:∀ x∈xs,0≤x∧x≤100) (q:∀ p H',H p=none→Same H H'→H' p=some (.lst ((MarkB xs s).map V.int))→Q (.ref p) H'):zfk K [.ref a,.int s] H Q E:=⟨rfl,a,xs,s,rfl,h1,h2,h3,q⟩
theorem zks (x y s:Int):zfn x y s=[(zfn x y s).getD 0 0,(zfn x y s).getD 1 0]:=by
 unfold zfn;split
 ·split <;> rfl
 ·rfl
theorem zkt {xs:List Int} (s:Int) (h:xs.length=2∨xs.length=3):MarkB xs s=[(MarkB xs s).getD 0 0,(MarkB xs s).getD 1 0]:=by
 rcases h with h | h
 ·match xs,h with
  | [x,y],_=>exact zks x y s
 ·match xs,h with
  | [x,y,z],_=>rfl
def zcC (K:PySem.W.Frag):Sp:=fun vs H Q _=>vs.length=4∧∃ (mk c d:Addr) (B:Hp) (nm en:LI) (s:Int) (n:Nat),vs=[.ref mk,.ref c,.ref d,.int s]∧zeV B mk ((List.range nm.length).map (zbM nm en s)) H∧LL K H c nm∧LL K H d en∧nm.length≤10∧(∀ i,i < en.length→(en.getD i []).length=3)∧(∀ k,k < nm.length→zcT n en k (nm.getD k []))∧(∀ k,k < nm.length→zaF nm en k=[])∧(∀ k,∀ p∈ptsOf nm en k,0≤p∧p≤100)∧∀ H',Same H H'→Q (.bl true) H'
theorem zed (T:Txt K mg t):FnOk P w K mg base CX0 4 t.f_64 t.d_64 ["_law_found","_law_names","_law_entries","_law_step_here"] (zcC K):=by
 have G_56:=zdc (P:=P) (w:=w) (base:=base) T;have G_50:=zfK (P:=P) (w:=w) (base:=base) T;have G_58:=zhM (P:=P) (w:=w) (base:=base) T;have G_51:=zfg (P:=P) (w:=w) (base:=base) T;refine T.F_64.ok sc_64 (fun _ _ _ _ h=>h.1) fun cdv A outer s H vs Q E hr h=>by
  refine ⟨_,(zab (zaS (zcv (zbd (zaw (K:=K) rfl (zag (zaP (K:=K) rfl) (by rfl) T.z_isinstance (by rfl) (zaa (pv 0) (zaa (zcD (v:=.ty "list") (u:=.type "list") (by rfl) T.z_list (by rfl) rfl) pa_nil))) (fun _=>rfl))) (zbX (zap (zc8 (K:=K) rfl hr.units0) (zag (zai (K:=K) rfl) (by rfl) T.z_len (by rfl) (zaa (pv 0) pa_nil)) (zag (zai (K:=K) rfl) (by rfl) T.z_len (by rfl) (zaa (pv 1) pa_nil)) (zay _)))).pt
   (zae (zak za9)) pss_nil)
   (zab (za2 PassesOwn.never rfl (zaX (by rfl) T.z_range (zaa (zag (zai (K:=K) rfl) (by rfl) T.z_len (by rfl) (zaa (pv 1) pa_nil)) pa_nil)) (zar (i:=4) sc_64.nd rfl (Or.inr rfl))
   (zab (zax (i:=5) sc_64.nd rfl (Or.inr rfl) (zal G_56 (hr.mono (by decide)) (by rfl) T.m_56 T.F_56.kp T.b_56 .nil zav (zaa (pv 1) (zaa (pv 2) (zaa (zat (op_addG) (pv 4) zad) pa_nil)))))
   (zab (zbD (i:=6) sc_64.nd rfl (Or.inl rfl) (by rfl) (zaq (sc:=zac s_64) (XN:=["_law_found","_law_names","_law_entries","_law_step_here","_law_k","_law_given_here","_law_readings"]) (N:=["_law_j","_law_names","_law_k","_law_given_here"]) (own:=1) (js:=[1,4,5]) rfl rfl (by decide +kernel)) rfl (zaX (by rfl) T.z_range (zaa (zag (zai (K:=K) rfl) (by rfl) T.z_len (by rfl) (zaa (pv 5) pa_nil)) pa_nil)) (fun _ _ _ _ _=>(zar (i:=0) (show List.Nodup [(Str.ofString "_law_j"),(Str.ofString "_law_names"),(Str.ofString "_law_k"),(Str.ofString "_law_given_here")] by decide +kernel) rfl (Or.inl rfl))) (fun _ _ _ _ _=>zbl) (fun _ _ _ _ _=>(zaN (zaa (zas (zaf (K:=K) rfl) (zas (zaf (K:=K) rfl) (pv 1) (pv 2) (fun _ _=>rfl)) (pv 0) (fun _ _=>rfl)) (zaa (zas (zaf (K:=K) rfl) (pv 3) (pv 0) (fun _ _=>rfl)) pa_nil)))))
   (zab (zaS (zcv (zap (zeg (K:=K) rfl (zdk hr)) zbW (pv 5) (by with_unfolding_all rfl)) (zcv (zbd (zaw (K:=K) rfl (zag (zaP (K:=K) rfl) (by rfl) T.z_isinstance (by rfl) (zaa (zas (zaf (K:=K) rfl) (pv 0) (pv 4) (fun _ _=>rfl)) (zaa (zcD (v:=.ty "list") (u:=.type "list") (by rfl) T.z_list (by rfl) rfl) pa_nil))) (fun _=>rfl))) (zbX (zap (zc8 (K:=K) rfl hr.units0) (zag (zai (K:=K) rfl) (by rfl) T.z_len (by rfl) (zaa (zas (zaf (K:=K) rfl) (pv 0) (pv 4) (fun _ _=>rfl)) pa_nil)) zad (zay _))))).pt
   (zae (zak za9)) pss_nil)
   (zab (zaS (zbd (zaw (K:=K) rfl (zal G_50 (hr.mono (by decide)) (by rfl) T.m_50 T.F_50.kp T.b_50 .nil zav (zaa (zdH (zdL (K:=K) rfl) (zas (zaf (K:=K) rfl) (pv 0) (pv 4) (fun _ _=>rfl)) po_none (zeI zad)) (zaa (zal G_58 (hr.mono (by decide)) (by rfl) T.m_58 T.F_58.kp T.b_58 .nil zav (zaa (pv 5) (zaa (pv 3) pa_nil))) pa_nil))) (fun _=>rfl)))
   (zae (zak za9)) pss_nil)
   (zae (zaS (zbd (zaw (K:=K) rfl (zal G_51 (hr.mono (by decide)) (by rfl) T.m_51 T.F_51.kp T.b_51 .nil zav (zaa (zas (zaf (K:=K) rfl) (zas (zaf (K:=K) rfl) (pv 0) (pv 4) (fun _ _=>rfl)) zad (fun _ _=>rfl)) (zaa (pv 6) pa_nil))) (fun _=>rfl)))
   (zae (zak za9)) pss_nil)))))))
   (zae (zak za9)))),?_⟩
  obtain ⟨_,mk,c,d,B,nm,en,s,n,rfl,MA,LC,LD,l10,e3,hro,hw,hpt,q⟩:=h;obtain ⟨sB,nB,vs,hv,hvl,hvs⟩:=MA;rw [length_map,length_range] at hvl hvs;obtain ⟨pc,hc1,hc2,hc3⟩:=id LC;symm;refine iteF ?_;symm;rw [decide_eq_true (show (vs.length:Int)=(pc.length:Int) by omega)];refine iteF ?_;symm;refine zb3 (by omega) (by omega) ?_;have en':((pc.length:Int)).toNat=nm.length:=by omega
  rw [en'];refine zb8 (fun i σ H'=>(∃ v4 v5 v6,σ=[some (.ref mk),some (.ref c),some (.ref d),some (.int s),v4,v5,v6])∧Same H H') ⟨⟨none,none,none,rfl⟩,Same.refl H⟩ ?_ ?_
  ·rintro i σ H' hi ⟨⟨v4,v5,v6,rfl⟩,s0⟩;have e0:(0:Int)+(i:Int)=(i:Int):=by omega
   have ek:((i:Int)+1-1).toNat=i:=by omega
   have ei:((i:Nat):Int).toNat=i:=by omega
   have hlr:=(hro i hi).len;have hpl:=zf1 nm en i;have ia:atI vs (i:Int)=some (vs.getD i .non):=zfQ (by rw [getD_eq_getElem?_getD,getElem?_eq_getElem (by omega)];rfl);rw [e0];symm;refine zdC (LC.same s0) (LD.same s0) (by omega) (by omega) e3 (by rw [ek];omega) fun p2 H2 f2 s2 e2=>?_;rw [ek] at e2;have e2o:=e2;rw [zgH (hw i hi)] at e2;have s02:=s0.trans s2;symm;refine zb3 (by omega) (by omega) ?_;have en2:(((ptsOf nm en i).length:Nat):Int).toNat=(nm.getD i []).length:=by omega
   rw [en2];refine zcj (zca (zcr.one (zbE _ _ _)) (by omega) (fun j=>[(nm.getD i []).getD j 0,(ptsOf nm en i).getD j 0]) (fun j H3 Q' hj s3 q'=>?_) fun p3 H3 R3=>?_)
   ·have hc':=(s02.trans s3).seq hc1;have hrow:=(s02.trans s3) _ _ (hc3 i hi);have e2':=s3 _ _ e2;have ej:(0+(j:Int)).toNat=j:=by omega
    symm;rw [ej];exact zau (by simp) fun l H4 f s4 e4=>q' l H4 f s4 e4
   rw [zgG hpl] at R3;have hmi:=hvs i hi;rw [zaD hi] at hmi;unfold zbM at hmi;rw [if_pos (hw i hi)] at hmi;obtain ⟨q1,r1,ps1,b1,b2,b3,b4,b5,b6,b7⟩:=hmi;have s03:=s02.trans R3.same;have hv3:=s03 _ _ hv;have b43:=s03 _ _ b4;have e2o3:=R3.same _ _ e2o;have e23:=R3.same _ _ e2;symm;refine zlB (SqL.of e2o3) ?_;rw [decide_eq_false (fun z=>zd5.mp z (hw i hi))];symm;refine iteF ?_;symm;refine zeL (SqL.of hv3) ia ?_;rw [b1];symm;refine iteF ?_;symm;refine zeL (SqL.of hv3) ia ?_;rw [b1];symm;refine iteF ?_;symm;refine zeL (SqL.of hv3) ia ?_;rw [b1];symm;refine zcx (SqL.of b43) fun p4 H4 f4 s4 e4=>?_;rw [show cutV [V.int ((MarkB (ptsOf nm en i) s).getD 0 0),V.int ((MarkB (ptsOf nm en i) s).getD 1 0),V.ref r1] none (some 2)=([(MarkB (ptsOf nm en i) s).getD 0 0,(MarkB (ptsOf nm en i) s).getD 1 0]:List Int).map V.int from zhf 2] at e4;symm;refine zi7 (xs:=ptsOf nm en i) (SqL.of (s4 _ _ e23)) (by omega) (hpt i) fun p5 H5 f5 s5 e5=>?_;rw [zkt s (xs:=ptsOf nm en i) (by omega)] at e5;symm;refine zgQ (s5 _ _ e4) (SqL.of e5) (by simp) ?_;rw [decide_eq_true rfl];symm;refine iteF ?_;have s35:=s4.trans s5;have s05:=s03.trans s35;have hv5:=s35 _ _ hv3;have b45:=s35 _ _ b43;have R5:=R3.mono s35;symm;refine zeL (SqL.of hv5) ia ?_;rw [b1];symm;refine zea ⟨_,s05 _ _ b5⟩ (⟨ps1,SqL.of (s05 _ _ b5),b6,fun j hj=>s05 _ _ (b7 j hj).2⟩:LL K H5 r1 (((nm.getD i []).zip (ptsOf nm en i)).map fun p=>[p.1,p.2])) R5.ll (by rw [length_map,List.length_zip];omega) (fun j hj=>by
    rw [getD_eq_getElem?_getD,getElem?_eq_getElem hj,Option.getD_some,getElem_map];show 2≤1000000;decide) ?_
   rw [decide_eq_true rfl];symm;refine iteF ?_;symm;exact ⟨⟨_,_,_,rfl⟩,s05⟩
  ·rintro σ H' ⟨⟨v4,v5,v6,rfl⟩,s0⟩;symm;exact q _ s0
theorem zew {mk c d:Addr} {B H:Hp} {nm en:LI} {s:Int} (n:Nat) {Q:VK} {E:XK} (MA:zeV B mk ((List.range nm.length).map (zbM nm en s)) H) (LC:LL K H c nm) (LD:LL K H d en) (l10:nm.length≤10) (e3:∀ i,i < en.length→(en.getD i []).length=3) (hro:∀ k,k < nm.length→zcT n en k (nm.getD k [])) (hw:∀ k,k < nm.length→zaF nm en k=[]) (hpt:∀ k,∀ p∈ptsOf nm en k,0≤p∧p≤100) (q:∀ H',Same H H'→Q (.bl true) H'):zcC K [.ref mk,.ref c,.ref d,.int s] H Q E:=⟨rfl,mk,c,d,B,nm,en,s,n,rfl,MA,LC,LD,l10,e3,hro,hw,hpt,q⟩
def zcf (K:PySem.W.Frag):Sp:=fun vs H Q _=>vs.length=2∧∃ a b:Nat,vs=[.int (a:Int),.int (b:Int)]∧Q (.int ((Nat.gcd a b:Nat):Int)) H
theorem zdG (T:Txt K mg t):FnOk P w K mg base CX0 1 t.f_16 t.d_16 ["one","other"] (zcf K):=by
 refine T.F_16.ok sc_16 (fun _ _ _ _ h=>h.1) fun cdv A outer s H vs Q E hr h=>by
  refine ⟨_,(zab (zax (i:=2) sc_16.nd rfl (Or.inl rfl) (pv 0))
   (zab (zax (i:=3) sc_16.nd rfl (Or.inl rfl) (pv 1))
   (zab (zhQ PassesOwn.never (zap (op_gt) (pv 3) zad (zay _))
   (zab (zax (i:=4) sc_16.nd rfl (Or.inl rfl) (zat (op_mod) (pv 2) (pv 3)))
   (zab (zax (i:=2) sc_16.nd rfl (Or.inl rfl) (pv 3))
   (zae (zax (i:=3) sc_16.nd rfl (Or.inl rfl) (pv 4))))))
   (zae (zak (pv 2)))))),?_⟩
  obtain ⟨_,a,b,rfl,q⟩:=h;symm;refine ⟨fun n σ H'=>∃ (x:Nat) (v:Option V),σ=[some (.int (a:Int)),some (.int (b:Int)),some (.int (x:Int)),some (.int (n:Int)),v]∧H'=H∧Nat.gcd x n=Nat.gcd a b,⟨b,a,none,rfl,rfl,rfl⟩,?_⟩;rintro n σ H' ⟨x,v,rfl,rfl,hg⟩;symm;refine zbk (fun h1=>?_) (fun h1=>?_)
  ·refine ⟨fun σ H''=>∃ (x' y':Nat) (v:Option V),y' < n∧σ=[some (.int (a:Int)),some (.int (b:Int)),some (.int (x':Int)),some (.int (y':Int)),v]∧H''=H'∧Nat.gcd x' y'=Nat.gcd a b,?_,?_⟩
   ·rintro σ' H'' ⟨x',y',v',hlt,rfl,rfl,hg'⟩;exact ⟨y',hlt,x',v',rfl,rfl,hg'⟩
   ·symm;refine ⟨n,x % n,_,Nat.mod_lt _ (by omega),rfl,rfl,?_⟩;rw [← hg,Nat.gcd_comm n,← Nat.gcd_rec,Nat.gcd_comm]
  ·have h0:n=0:=by omega
   subst h0;rw [Nat.gcd_zero_right] at hg;subst hg;symm;exact q
theorem zd2 {H:Hp} {a b:Nat} {Q:VK} {E:XK} (q:Q (.int ((Nat.gcd a b:Nat):Int)) H):zcf K [.int (a:Int),.int (b:Int)] H Q E:=⟨rfl,a,b,rfl,q⟩
theorem zmA {a b:Nat} (hb:1≤b):Low (a:Int) (b:Int) ((a:Int) / ((Nat.gcd a b:Nat):Int)) ((b:Int) / ((Nat.gcd a b:Nat):Int)):=by
 have hg:0 < Nat.gcd a b:=Nat.gcd_pos_of_pos_right _ hb;obtain ⟨x,hx⟩:=Nat.gcd_dvd_left a b;obtain ⟨y,hy⟩:=Nat.gcd_dvd_right a b;have hco:Nat.gcd (a / Nat.gcd a b) (b / Nat.gcd a b)=1:=by
  rw [Nat.gcd_div (Nat.gcd_dvd_left a b) (Nat.gcd_dvd_right a b),Nat.div_self hg]
 have e1:a / Nat.gcd a b=x:=by
  conv=>lhs;arg 1;rw [hx]
  exact Nat.mul_div_cancel_left x hg
 have e2:b / Nat.gcd a b=y:=by
  conv=>lhs;arg 1;rw [hy]
  exact Nat.mul_div_cancel_left y hg
 have l1:=Nat.div_le_self a (Nat.gcd a b);have l2:=Nat.div_le_self b (Nat.gcd a b);rw [e1] at l1;rw [e2] at l2;have c1:(a:Int) / ((Nat.gcd a b:Nat):Int)=(x:Int):=by rw [← Int.natCast_ediv,e1]
 have c2:(b:Int) / ((Nat.gcd a b:Nat):Int)=(y:Int):=by rw [← Int.natCast_ediv,e2]
 rw [e1,e2] at hco;rw [c1,c2];have y1:1≤y:=by
  rcases Nat.eq_zero_or_pos y with h | h
  ·rw [h,Nat.mul_zero] at hy;omega
  ·exact h
 refine ⟨by omega,by omega,?_,?_,by omega,by omega⟩
 ·have:x * b=a * y:=by
   generalize Nat.gcd a b=g at *;subst hx hy;rw [Nat.mul_comm g y,← Nat.mul_assoc,Nat.mul_comm g x,Nat.mul_right_comm]
  exact_mod_cast this
 ·show Nat.gcd (Int.natAbs x) (Int.natAbs y)=1;rw [Int.natAbs_natCast,Int.natAbs_natCast];exact hco
def zg1 (K:PySem.W.Frag):Sp:=fun vs H Q _=>vs.length=2∧∃ x y:Int,vs=[.int x,.int y]∧0≤x∧x≤10 ^ 30∧1≤y∧y≤10 ^ 30∧∀ t b,Low x y t b→∀ p H',H p=none→Same H H'→H' p=some (.lst ([t,b].map V.int))→Q (.ref p) H'
theorem zku (T:Txt K mg t):FnOk P w K mg base CX0 2 t.f_15 t.d_15 ["top","bottom"] (zg1 K):=by
 have G_16:=zdG (P:=P) (w:=w) (base:=base) T;refine T.F_15.ok sc_15 (fun _ _ _ _ h=>h.1) fun cdv A outer s H vs Q E hr h=>by
  refine ⟨_,(zab (zax (i:=2) sc_15.nd rfl (Or.inl rfl) (zal G_16 (hr.mono (by decide)) (by rfl) T.m_16 T.F_16.kp T.b_16 .nil zav (zaa (pv 0) (zaa (pv 1) pa_nil))))
   (zae (zak (zaN (zaa (zat (op_fdivB) (pv 0) (pv 2)) (zaa (zat (op_fdivB) (pv 1) (pv 2)) pa_nil)))))),?_⟩
  obtain ⟨_,x,y,rfl,x0,x1,y0,y1,q⟩:=h;obtain ⟨a,rfl⟩:=Int.eq_ofNat_of_zero_le x0;obtain ⟨b,rfl⟩:=Int.eq_ofNat_of_zero_le (show 0≤y by omega);have hb:1≤b:=by omega
  have hL:=zmA (a:=a) hb;have hg:0 < Nat.gcd a b:=Nat.gcd_pos_of_pos_right _ hb;have hg2:Nat.gcd a b≤b:=Nat.le_of_dvd hb (Nat.gcd_dvd_right a b);symm;refine zd2 ?_;symm;refine zau (by simp) fun p H' f s e=>?_;exact q _ _ hL p H' f s e
theorem zgf {H:Hp} {x y:Int} {Q:VK} {E:XK} (x0:0≤x) (x1:x≤10 ^ 30) (y0:1≤y) (y1:y≤10 ^ 30) (q:∀ t b,Low x y t b→∀ p H',H p=none→Same H H'→H' p=some (.lst ([t,b].map V.int))→Q (.ref p) H'):zg1 K [.int x,.int y] H Q E:=⟨rfl,x,y,rfl,x0,x1,y0,y1,q⟩
theorem zlq {a b:List Int} (h:a.Perm b):a.sum=b.sum:=by
 induction h with
 | nil=>rfl
 | cons x _ ih=>rw [sum_cons,sum_cons,ih]
 | swap x y l=>simp only [sum_cons];omega
 | trans _ _ i1 i2=>exact i1.trans i2
theorem zi8 {x y z:Int} {ns:List Int} (hp:ns.Perm [x,y,z]) (hs:ns.Pairwise (·≤·)):ns.getD 1 0=mid3 x y z:=by
 have hl:=hp.length_eq
 match ns,hl with
 | [a,b,c],_ =>
   have h1:a≤b∧b≤c:=by simp at hs;omega
   have hsum:a+b+c=x+y+z:=by
    have:=zlq hp;simp at this;omega
   have ma:a=x∨a=y∨a=z:=by have:=hp.mem_iff.mp (show a∈[a,b,c] by simp);simpa using this
   have mc:c=x∨c=y∨c=z:=by have:=hp.mem_iff.mp (show c∈[a,b,c] by simp);simpa using this
   have mx:x=a∨x=b∨x=c:=by have:=hp.mem_iff.mpr (show x∈[x,y,z] by simp);simpa using this
   have my:y=a∨y=b∨y=c:=by have:=hp.mem_iff.mpr (show y∈[x,y,z] by simp);simpa using this
   have mz:z=a∨z=b∨z=c:=by have:=hp.mem_iff.mpr (show z∈[x,y,z] by simp);simpa using this
   show b=_;unfold mid3 min2 max2
   repeat' split
   all_goals omega
def zer (K:PySem.W.Frag):Sp:=fun vs H Q _=>vs.length=1∧∃ (a:Addr) (x y z:Int),vs=[.ref a]∧SqL K H a ([x,y,z].map V.int)∧∀ H',Same H H'→Q (.int (mid3 x y z)) H'
theorem zg2 (T:Txt K mg t):FnOk P w K mg base CX0 1 t.f_19 t.d_19 ["points"] (zer K):=by
 refine T.F_19.ok sc_19 (fun _ _ _ _ h=>h.1) fun cdv A outer s H vs Q E hr h=>by
  refine ⟨_,(zae (zak (zas (zaf (K:=K) rfl) (zag (zef (K:=K) rfl) (by rfl) T.z_sorted (by rfl) (zaa (pv 0) pa_nil)) zad (fun _ _=>rfl)))),?_⟩;obtain ⟨_,a,x,y,z,rfl,ha,q⟩:=h;symm;refine zeS ha (by simp) fun ns hp hs p H' f s e=>?_;have hl:ns.length=3:=hp.length_eq;symm;have e1:ns.getD (Int.toNat 1) 0=mid3 x y z:=zi8 hp hs;rw [e1];exact q _ s
theorem zhN {H:Hp} {a:Addr} {x y z:Int} {Q:VK} {E:XK} (h:SqL K H a ([x,y,z].map V.int)) (q:∀ H',Same H H'→Q (.int (mid3 x y z)) H'):zer K [.ref a] H Q E:=⟨rfl,a,x,y,z,rfl,h,q⟩
theorem zkv {x t b:Int} (h:Low x 1 t b):t=x∧b=1:=by
 have h1:=h.bl;have h2:=h.b1;have hb:b=1:=by omega
 have:=h.eq;rw [hb] at this;exact ⟨by omega,hb⟩
theorem zmB {x t b:Int} (h:Low x 2 t b):[t,b]=if x % 2=1 then [x,2] else [x / 2,1]:=by
 have h1:=h.bl;have h2:=h.b1;have h3:=h.eq;have hb:b=1∨b=2:=by omega
 rcases hb with rfl | rfl
 ·rw [if_neg (by omega)];have:t=x / 2:=by omega
  rw [this]
 ·have ht:t=x:=by omega
  subst ht;have hg:=h.co;have hodd:t % 2=1:=by
   rcases Int.emod_two_eq t with e | e
   ·exfalso;have hd:(2:Int) ∣ t:=Int.dvd_of_emod_eq_zero e;have:(2:Nat) ∣ Int.gcd t 2:=Int.dvd_gcd hd (Int.dvd_refl 2);rw [hg] at this;have:=Nat.le_of_dvd (by decide) this;omega
   ·exact e
  rw [if_pos hodd]
def zfN (K:PySem.W.Frag):Sp:=fun vs H Q _=>vs.length=2∧∃ (a:Addr) (xs:List Int) (s:Int),vs=[.ref a,.int s]∧SqL K H a (xs.map V.int)∧(xs.length=2∨xs.length=3)∧(∀ x∈xs,0≤x∧x≤100)∧∀ p H',H p=none→Same H H'→H' p=some (.lst ((MarkB xs s).map V.int))→Q (.ref p) H'
theorem zi9 (T:Txt K mg t):FnOk P w K mg base CX0 3 t.f_18 t.d_18 ["points","step"] (zfN K):=by
 have G_15:=zku (P:=P) (w:=w) (base:=base) T;have G_19:=zg2 (P:=P) (w:=w) (base:=base) T;have G_17:=zin (P:=P) (w:=w) (base:=base) T;refine T.F_18.ok sc_18 (fun _ _ _ _ h=>h.1) fun cdv A outer s H vs Q E hr h=>by
  refine ⟨_,(zab (zaS (zap (zbF (K:=K) rfl hr.units0) (zag (zai (K:=K) rfl) (by rfl) T.z_len (by rfl) (zaa (pv 0) pa_nil)) zad (zay _))
   (zae (zak (zal G_15 (hr.mono (by decide)) (by rfl) T.m_15 T.F_15.kp T.b_15 .nil zav (zaa (zal G_19 (hr.mono (by decide)) (by rfl) T.m_19 T.F_19.kp T.b_19 .nil zav (zaa (pv 0) pa_nil)) (zaa zad pa_nil))))) pss_nil)
   (zab (zaS (zaw (K:=K) rfl (zal G_17 (hr.mono (by decide)) (by rfl) T.m_17 T.F_17.kp T.b_17 .nil zav (zaa (zas (zaf (K:=K) rfl) (pv 0) zad (fun _ _=>rfl)) (zaa (zas (zaf (K:=K) rfl) (pv 0) zad (fun _ _=>rfl)) (zaa (pv 1) pa_nil)))) (fun _=>rfl))
   (zae (zak (zal G_15 (hr.mono (by decide)) (by rfl) T.m_15 T.F_15.kp T.b_15 .nil zav (zaa (zag (zc2 (K:=K) rfl rfl) (by rfl) T.z_sum (by rfl) (zaa (pv 0) pa_nil)) (zaa zad pa_nil))))) pss_nil)
   (zae (zak (zal G_15 (hr.mono (by decide)) (by rfl) T.m_15 T.F_15.kp T.b_15 .nil zav (zaa (zag (zc3 (K:=K) rfl rfl) (by rfl) T.z_min (by rfl) (zaa (pv 0) pa_nil)) (zaa zad pa_nil))))))),?_⟩
  obtain ⟨_,a,xs,s,rfl,ha,hl,hb,q⟩:=h;symm;rcases hl with hl | hl
  ·match xs,hl with
   | [x,y],_ =>
     have hx:=hb x (by simp);have hy:=hb y (by simp);refine iteF ?_;have l2:([x,y]:List Int).length=2:=rfl;symm;refine zkq ?_;symm;show if zbm x y s=true then _ else _
     have em:MarkB [x,y] s=zfn x y s:=rfl;rw [em] at q;unfold zfn at q
     cases eg:zbm x y s with
     | true =>
       rw [eg] at q;simp only [if_true] at q ⊢;symm;refine zdN ha (fun z hz=>?_) (by simp) ?_
       ·have:=hb z hz;omega
       symm;have es:[x,y].sum=x+y:=by simp
       rw [es];refine zgf (by omega) (by omega) (by omega) (by omega) fun t b hL p H' f s' e=>?_;rw [zmB hL] at e;exact q p H' f s' e
     | false =>
       rw [eg] at q;simp only [Bool.false_eq_true,if_false] at q ⊢;symm;refine zc4 ha (by simp) fun m hm hle=>?_;have em:m=min2 x y:=by
        have h1:=hle x (by simp);have h2:=hle y (by simp);have h3:m=x∨m=y:=by simpa using hm
        unfold min2;split <;> omega
       have hmb:=hb m hm;symm;refine zgf (by omega) (by omega) (by omega) (by omega) fun t b hL p H' f s' e=>?_;obtain ⟨rfl,rfl⟩:=zkv hL;rw [em] at e;exact q p H' f s' e
  ·match xs,hl with
   | [x,y,z],_ =>
     have hx:=hb x (by simp);have hy:=hb y (by simp);have hz:=hb z (by simp);refine iteT ?_;symm;refine zhN ha fun H1 s1=>?_;have hm:0≤mid3 x y z∧mid3 x y z≤100:=by rcases zkZ x y z with e | e | e <;> rw [e] <;> assumption
     symm;refine zgf (by omega) (by omega) (by omega) (by omega) fun t b hL p H' f s' e=>?_;obtain ⟨rfl,rfl⟩:=zkv hL;exact q p H' (s1.free f) (s1.trans s') e
theorem zkw {H:Hp} {a:Addr} {xs:List Int} {s:Int} {Q:VK} {E:XK} (h1:SqL K H a (xs.map V.int)) (h2:xs.length=2∨xs.length=3) (h3:∀ x∈xs,0≤x∧x≤100) (q:∀ p H',H p=none→Same H H'→H' p=some (.lst ((MarkB xs s).map V.int))→Q (.ref p) H'):zfN K [.ref a,.int s] H Q E:=⟨rfl,a,xs,s,rfl,h1,h2,h3,q⟩
def zb2 (K:PySem.W.Frag) (C:Addr):Sp:=fun vs H Q _=>vs.length=2∧∃ (x:Addr) (F:Addr→Prop) (st:ExS) (k:Int),vs=[.ref x,.int k]∧ExAt C H x F st∧InB st.hs st.rs∧1≤k∧k≤st.nm.length∧(∀ v H',Same H H'→zeU H v (zbM st.nm st.en st.step (k-1).toNat) H'→Q v H')
theorem zex (T:Txt K mg t):FnOk P w K mg base CX0 4 t.f_44 t.d_44 ["self","paper"] (zb2 K t.C_Exam):=by
 have G_42:=zbc (P:=P) (w:=w) (base:=base) T;have G_43:=zcn (P:=P) (w:=w) (base:=base) T;have G_18:=zi9 (P:=P) (w:=w) (base:=base) T;refine T.F_44.ok sc_44 (fun _ _ _ _ h=>h.1) fun cdv A outer s H vs Q E hr h=>by
  refine ⟨_,(zab (zaS (zap (op_gt) (zag (zai (K:=K) rfl) (by rfl) T.z_len (by rfl) (zaa (zbh (pv 0) T.cl_Exam T.me_42 G_42 (hr.mono (by decide)) T.b_42 .nil zav (zaa (pv 1) pa_nil)) pa_nil)) zad (zay _))
   (zae (zak zbW)) pss_nil)
   (zab (zax (i:=2) sc_44.nd rfl (Or.inl rfl) (zbh (pv 0) T.cl_Exam T.me_43 G_43 (hr.mono (by decide)) T.b_43 .nil zav (zaa (pv 1) pa_nil)))
   (zab (zbD (i:=3) sc_44.nd rfl (Or.inl rfl) (by rfl) (zaq (sc:=zac s_44) (XN:=["self","paper","points","readings"]) (N:=["reader","given"]) (own:=2) (js:=[]) rfl rfl (by decide +kernel)) rfl (zjI (K:=K) rfl (by rfl) T.z_zip (zaa (zas (zaf (K:=K) rfl) (zaG (K:=K) rfl (pv 0)) (zat (op_sub) (pv 1) zad) (fun _ _=>rfl)) (zaa (pv 2) pa_nil))) (fun _ _ _ _ _=>(zfT (K:=K) (n:=2) rfl rfl (zcg (zar (i:=0) (show List.Nodup [(Str.ofString "reader"),(Str.ofString "given")] by decide +kernel) rfl (Or.inl rfl)) (zcg (zar (i:=1) (show List.Nodup [(Str.ofString "reader"),(Str.ofString "given")] by decide +kernel) rfl (Or.inl rfl)) pgs_nil)))) (fun _ _ _ _ _=>zbl) (fun _ _ _ _ _=>(zaN (zaa (pv 0) (zaa (pv 1) pa_nil)))))
   (zae (zak (zat (op_addG) (zal G_18 (hr.mono (by decide)) (by rfl) T.m_18 T.F_18.kp T.b_18 .nil zav (zaa (pv 2) (zaa (zaG (K:=K) rfl (pv 0)) pa_nil))) (zaN (zaa (pv 3) pa_nil)))))))),?_⟩
  obtain ⟨_,x,F,st,k,rfl,E0,BB,k1,k2,q⟩:=h;have B1:=BB.lp;have B2:=BB.lr;have E0':=E0;walk_at "hd";have lq:=I.lq;have ld:=I.ld;have l10:=I.wf.n10 BB;have hk:(k-1).toNat < st.nm.length:=by omega
  have hdic:=I.rd _ hk;have hrow:=I.rq _ hk;have hvk:=I.vk _ hk;have hlr:=(I.wf.row _ hk).len;have hpl:=zf1 st.nm st.en (k-1).toNat;symm;refine zbj E0' BB k1 k2 (fun Q z=>zd3 (i:=1) rfl z) fun p1 H1 f1 s1 e1=>?_;symm;refine zbk (fun h0=>?_) (fun h0=>?_)
  ·symm;refine q .non H1 s1 ?_;have hm:zbM st.nm st.en st.step (k-1).toNat=none:=by
    unfold zbM;rw [if_neg (fun z=>by rw [z] at h0;exact absurd h0 (by simp))]
   rw [hm];rfl
  ·have hw:zaF st.nm st.en (k-1).toNat=[]:=eq_nil_of_length_eq_zero (by omega);have hm:zbM st.nm st.en st.step (k-1).toNat=some ((MarkB (ptsOf st.nm st.en (k-1).toNat) st.step).getD 0 0,(MarkB (ptsOf st.nm st.en (k-1).toNat) st.step).getD 1 0,((st.nm.getD (k-1).toNat []).zip (ptsOf st.nm st.en (k-1).toNat)).map fun p=>[p.1,p.2]):=by
    unfold zbM;rw [if_pos hw]
   rw [hm] at q;have E1:=E0'.same s1;symm;refine zcB E1 BB k1 k2 hw (fun Q z=>zd3 (i:=1) rfl z) fun p2 H2 f2 s2 e2=>?_;have s02:=s1.trans s2;have hob:=s02 _ _ hob;have hhc:=s02 _ _ hhc;have hrow:=s02 _ _ hrow;symm;refine zjJ (SqL.of hrow) (SqL.of e2) ?_;refine zca (zcr.zip (SqL.of hrow) (SqL.of e2) (by rw [length_map,length_map,hpl])) (by rw [length_map];omega) (fun i=>[(st.nm.getD (k-1).toNat []).getD i 0,(ptsOf st.nm st.en (k-1).toNat).getD i 0]) (fun i H' Q' hi s q'=>?_) fun p3 H3 R3=>?_
   ·rw [length_map] at hi;have ex:((st.nm.getD (k-1).toNat []).map V.int).getD i .non=.int ((st.nm.getD (k-1).toNat []).getD i 0):=zcz hi;have ey:((ptsOf st.nm st.en (k-1).toNat).map V.int).getD i .non=.int ((ptsOf st.nm st.en (k-1).toNat).getD i 0):=zcz (by omega);rw [ex,ey];show (_:TE) (some (.int _)::some (.int _)::_) _ _;symm;refine zau (by simp) fun p4 H4 f4 s4 e4=>?_;exact q' p4 H4 f4 s4 e4
   ·have er:(List.range ((st.nm.getD (k-1).toNat []).map V.int).length).map (fun i=>[(st.nm.getD (k-1).toNat []).getD i 0,(ptsOf st.nm st.en (k-1).toNat).getD i 0])=((st.nm.getD (k-1).toNat []).zip (ptsOf st.nm st.en (k-1).toNat)).map fun p=>[p.1,p.2]:=by
     rw [length_map];exact zgG hpl
    rw [er] at R3;have s03:=s02.trans R3.same;have hob:=R3.same _ _ hob;symm;refine zkw (SqL.of (R3.same _ _ e2)) (by rw [hpl];exact hlr) (fun x hx=>I.wf.ptsOf hx) fun p4 H4 f4 s4 e4=>?_;have s04:=s03.trans s4;symm;refine zau (by simp) fun p5 H5 f5 s5 e5=>?_;symm;obtain ⟨sR,nR,psr,r1,r2,_,r3⟩:=R3;have ml:MarkB (ptsOf st.nm st.en (k-1).toNat) st.step=[(MarkB (ptsOf st.nm st.en (k-1).toNat) st.step).getD 0 0,(MarkB (ptsOf st.nm st.en (k-1).toNat) st.step).getD 1 0]:=by
     unfold MarkB zfn;split
     ·split
      ·split <;> rfl
      ·rfl
     ·rfl
    rw [ml] at e4;refine zhV (s5 _ _ e4) e5 (by simp) fun p6 H6 f6 s6 e6=>?_;have s46:=s5.trans s6;have s36:=s4.trans s46;refine q _ H6 (s03.trans s36) ⟨p6,p3,psr,rfl,(s04.trans s5).free f6,s02.free nR,e6,s36 _ _ r1,r2,fun j hj=>⟨s02.free (r3 j hj).2.1,s36 _ _ (r3 j hj).1⟩⟩
theorem zfl {K:PySem.W.Frag} {C x:Addr} {H:Hp} {F:Addr→Prop} {st:ExS} {k:Int} {Q:VK} {E:XK} (h:ExAt C H x F st) (B:InB st.hs st.rs) (k1:1≤k) (k2:k≤st.nm.length) (q:(∀ v H',Same H H'→zeU H v (zbM st.nm st.en st.step (k-1).toNat) H'→Q v H')):zb2 K C [.ref x,.int k] H Q E:=⟨rfl,x,F,st,k,rfl,h,B,k1,k2,q⟩
theorem zfm {K:PySem.W.Frag} {C x:Addr} {H:Hp} {F:Addr→Prop} {st:ExS} {k:Int} {Q:VK} {E:XK} {σ:L2.St} {tk:TE} (h:ExAt C H x F st) (B:InB st.hs st.rs) (k1:1≤k) (k2:k≤st.nm.length) (hk:∀ Q:VK,Q (.int k) H→tk σ H Q) (q:(∀ v H',Same H H'→zeU H v (zbM st.nm st.en st.step (k-1).toNat) H'→Q v H')):zbp C "mark_for" (zb2 K C) E (zgk tk tNil) σ (.ref x) H Q:=by
 obtain ⟨dx,fs,e,l⟩:=h.ob;exact zaO e (l _ (by decide +kernel)) (zfy (hk _ (zes (zfl h B k1 k2  q))))
def zcN (K:PySem.W.Frag) (C:Addr):Sp:=fun vs H Q _=>vs.length=1∧∃ (x:Addr) (F:Addr→Prop) (st:ExS),vs=[.ref x]∧ExAt C H x F st∧InB st.hs st.rs∧(∀ p H',zeV H p (zcO st) H'→Q (.ref p) H')
theorem zgg (T:Txt K mg t):FnOk P w K mg base CX0 5 t.f_37 t.d_37 ["self"] (zcN K t.C_Exam):=by
 have G_44:=zex (P:=P) (w:=w) (base:=base) T;refine T.F_37.ok sc_37 (fun _ _ _ _ h=>h.1) fun cdv A outer s H vs Q E hr h=>by
  refine ⟨_,(zab (zaS (zbd (zaw (K:=K) rfl (zaG (K:=K) rfl (pv 0)) (fun _=>rfl)))
   (zae (zak (zba (zaq (sc:=zac s_37) (XN:=["self"]) (N:=["house"]) (own:=1) (js:=[]) rfl rfl (by decide +kernel)) rfl (zaI (K:=K) rfl (zaG (K:=K) rfl (pv 0))) (fun _ _ _ _ _=>(zar (i:=0) (show List.Nodup [(Str.ofString "house")] by decide +kernel) rfl (Or.inl rfl))) (fun _ _ _ _ _=>zbl) (fun _ _ _ _ _=>zbW)))) pss_nil)
   (zae (zak (zba (zaq (sc:=zac s_37) (XN:=["self"]) (N:=["paper","self"]) (own:=1) (js:=[0]) rfl rfl (by decide +kernel)) rfl (zb6 (by rfl) T.z_range (zaa zad (zaa (zat (op_addG) (zag (zai (K:=K) rfl) (by rfl) T.z_len (by rfl) (zaa (zaG (K:=K) rfl (pv 0)) pa_nil)) zad) pa_nil))) (fun _ _ _ _ _=>(zar (i:=0) (show List.Nodup [(Str.ofString "paper"),(Str.ofString "self")] by decide +kernel) rfl (Or.inl rfl))) (fun _ _ _ _ _=>zbl) (fun _ _ _ _ _=>(zbh (pv 1) T.cl_Exam T.me_44 G_44 (hr.mono (by decide)) T.b_44 .nil zav (zaa (pv 0) pa_nil))))))),?_⟩
  obtain ⟨_,x,F,st,rfl,E0,BB,q⟩:=h;have B1:=BB.lp;have B2:=BB.lr;have E0':=E0;walk_at "hd";have l10:=I.wf.n10 BB;symm
  cases hdl:st.dl with
  | none =>
    refine iteT ?_;rw [hdl] at hob;have fA:=@exFs_a (.ref e.a) (.ref e.b) (.int st.step) (.bl (none:Option (List (List Int)×List (List Int))).isSome) (.ref e.c) (.ref e.d);symm;refine zaT (SqL.of hha) ?_;refine zcw (zbe (SqL.of hha)) (za0 (by rw [length_map];omega)) (fun _=>true) (fun _=>.non) (fun i H' Q' hi s q'=>q') (fun i H' Q' hi s _ q'=>q') fun p hp=>?_;have em:zcO st=(List.range st.hs.length).map fun _=>none:=by unfold zcO;rw [hdl]
    rw [filter_eq_self.mpr (fun _ _=>rfl),length_map];refine q p _ ⟨zaY hp,hp,_,zaz,by rw [em];simp,fun i hi=>?_⟩;rw [em] at hi ⊢;rw [length_map,length_range] at hi;rw [zaD hi,zaD hi];rfl
  | some d =>
    obtain ⟨nm,en⟩:=d;refine iteF ?_;have hln:=I.wf.ln (by rw [hdl];rfl);rw [hdl] at hob;have fA:=@exFs_a (.ref e.a) (.ref e.b) (.int st.step) (.bl (some (nm,en)).isSome) (.ref e.c) (.ref e.d);have enm:st.nm=nm:=by unfold ExS.nm;rw [hdl];rfl
    have een:st.en=en:=by unfold ExS.en;rw [hdl];rfl
    symm;refine zeN ⟨by omega,by omega,by omega,by omega⟩ ?_;have en':((st.hs.length:Int)+1-1).toNat=st.hs.length:=by omega
    rw [en'];refine zcj (zh9 (zcr.one (zbE 1 st.hs.length H)) (by omega) (fun p i v H2=>zdx H p v (zbM nm en st.step i) H2) (fun _ _=>True) (fun p i v H1 H2 h k=>h.keep k) (fun p ys i H' Q' hi hp s hpp hl hR q'=>?_) fun p vs H2 hp s hpp hl hR _=>?_)
    ·have E':=E0'.same s;show (_:TE) (some (.int (1+(i:Int)))::_) _ _;symm;refine zfm E' BB (k:=1+(i:Int)) (by omega) (by omega) (fun Q z=>zd3 (i:=0) rfl z) fun v H2 s2 M=>?_;have ek:(1+(i:Int)-1).toNat=i:=by omega
     rw [ek,enm,een] at M;exact q' v H2 s2 (M.new s hpp) trivial
    ·refine q p H2 ⟨s,hp,vs,hpp,?_,fun i hi=>?_⟩
     ·unfold zcO;rw [hdl];simpa using hl
     ·have em:zcO st=(List.range st.hs.length).map (zbM nm en st.step):=by unfold zcO;rw [hdl]
      rw [em] at hi ⊢;rw [length_map,length_range] at hi;rw [zaD hi];exact (hR i hi).is
theorem zg3 {K:PySem.W.Frag} {C x:Addr} {H:Hp} {F:Addr→Prop} {st:ExS} {Q:VK} {E:XK} (h:ExAt C H x F st) (B:InB st.hs st.rs) (q:(∀ p H',zeV H p (zcO st) H'→Q (.ref p) H')):zcN K C [.ref x] H Q E:=⟨rfl,x,F,st,rfl,h,B,q⟩
theorem zg4 {K:PySem.W.Frag} {C x:Addr} {H:Hp} {F:Addr→Prop} {st:ExS} {Q:VK} {E:XK} {σ:L2.St} (h:ExAt C H x F st) (B:InB st.hs st.rs) (q:(∀ p H',zeV H p (zcO st) H'→Q (.ref p) H')):zbp C "marks" (zcN K C) E tNil σ (.ref x) H Q:=by
 obtain ⟨dx,fs,e,l⟩:=h.ob;exact zaO e (l _ (by decide +kernel)) (zes (zg3 h B q))
theorem zg5 {st:ExS} (W:Wf st) (hd:st.dl.isSome=true) {nm en:LI} {s:Int} (hn:st.nm=nm) (hs:st.step=s) (he:∀ k r,zaE st.en k r=zaE en k r):zcO st=(List.range nm.length).map (zbM nm en s):=by
 rw [zgJ W hd,hn,hs];exact map_congr_left fun k _=>ziR he k
def zg6 (K:PySem.W.Frag):Sp:=fun vs H Q _=>vs.length=1∧∃ (a:Addr) (ns:List Int),vs=[.ref a]∧SqL K H a (ns.map V.int)∧ns.length≤63∧∀ H',Q (.bl true) H'
theorem zn2 (T:Txt K mg t):FnOk P w K mg base CX0 23 t.f_69 t.d_69 ["_law_script"] (zg6 K):=by
 have G_52:=zfo (P:=P) (w:=w) (base:=base) T;have G_63:=zhq (P:=P) (w:=w) (base:=base) T;have G_47:=ze3 (P:=P) (w:=w) (base:=base) T;have G_55:=zhs (P:=P) (w:=w) (base:=base) T;have G_49:=zgM (P:=P) (w:=w) (base:=base) T;have G_28:=zgP (P:=P) (w:=w) (base:=base) T;have G_34:=zfd (P:=P) (w:=w) (base:=base) T;have G_51:=zfg (P:=P) (w:=w) (base:=base) T;have G_54:=zgR (P:=P) (w:=w) (base:=base) T;have G_65:=zgT (P:=P) (w:=w) (base:=base) T;have G_68:=zi4 (P:=P) (w:=w) (base:=base) T;have G_36:=zhL (P:=P) (w:=w) (base:=base) T;have G_64:=zed (P:=P) (w:=w) (base:=base) T;have G_37:=zgg (P:=P) (w:=w) (base:=base) T;refine T.F_69.ok sc_69 (fun _ _ _ _ h=>h.1) fun cdv A outer s H vs Q E hr h=>by
  refine ⟨_,(zab (zax (i:=1) sc_69.nd rfl (Or.inl rfl) (zal G_52 (hr.mono (by decide)) (by rfl) T.m_52 T.F_52.kp T.b_52 .nil zav (zaa (pv 0) (zaa zad (zaa zad pa_nil)))))
   (zab (zax (i:=2) sc_69.nd rfl (Or.inl rfl) (zal G_63 (hr.mono (by decide)) (by rfl) T.m_63 T.F_63.kp T.b_63 .nil zav (zaa (zal G_47 (hr.mono (by decide)) (by rfl) T.m_47 T.F_47.kp T.b_47 .nil zav (zaa (pv 0) (zaa zad pa_nil))) pa_nil)))
   (zab (zax (i:=3) sc_69.nd rfl (Or.inl rfl) (zaN (zaa (zal G_55 (hr.mono (by decide)) (by rfl) T.m_55 T.F_55.kp T.b_55 .nil zav (zaa (zas (zaf (K:=K) rfl) (pv 1) zad (fun _ _=>rfl)) (zaa (zas (zaf (K:=K) rfl) (pv 1) zad (fun _ _=>rfl)) (zaa (pv 2) (zaa zad pa_nil))))) (zaa (zal G_55 (hr.mono (by decide)) (by rfl) T.m_55 T.F_55.kp T.b_55 .nil zav (zaa (zas (zaf (K:=K) rfl) (pv 1) zad (fun _ _=>rfl)) (zaa (zas (zaf (K:=K) rfl) (pv 1) zad (fun _ _=>rfl)) (zaa (pv 2) (zaa zad pa_nil))))) pa_nil))))
   (zab (zaS (zcv (zbd (zaw (K:=K) rfl (zal G_49 (hr.mono (by decide)) (by rfl) T.m_49 T.F_49.kp T.b_49 .nil zav (zaa (zbv (zas (zaf (K:=K) rfl) (pv 3) zad (fun _ _=>rfl)) T.cl_Exam T.me_28 G_28 (hr.mono (by decide)) T.b_28 .nil zav) (zaa za9 pa_nil))) (fun _=>rfl))) (zbX (zbd (zaw (K:=K) rfl (zal G_49 (hr.mono (by decide)) (by rfl) T.m_49 T.F_49.kp T.b_49 .nil zav (zaa (zbv (zas (zaf (K:=K) rfl) (pv 3) zad (fun _ _=>rfl)) T.cl_Exam T.me_28 G_28 (hr.mono (by decide)) T.b_28 .nil zav) (zaa za9 pa_nil))) (fun _=>rfl))))).pt
   (zae (zak za9)) pss_nil)
   (zab (zax (i:=4) sc_69.nd rfl (Or.inl rfl) (zaN (zaa (zbv (zas (zaf (K:=K) rfl) (pv 3) zad (fun _ _=>rfl)) T.cl_Exam T.me_34 G_34 (hr.mono (by decide)) T.b_34 .nil zav) (zaa (zbv (zas (zaf (K:=K) rfl) (pv 3) zad (fun _ _=>rfl)) T.cl_Exam T.me_34 G_34 (hr.mono (by decide)) T.b_34 .nil zav) pa_nil))))
   (zab (zaS (zcv (zbd (zaw (K:=K) rfl (zal G_54 (hr.mono (by decide)) (by rfl) T.m_54 T.F_54.kp T.b_54 .nil zav (zaa (zas (zaf (K:=K) rfl) (pv 1) zad (fun _ _=>rfl)) (zaa (zas (zaf (K:=K) rfl) (pv 1) zad (fun _ _=>rfl)) (zaa (zas (zaf (K:=K) rfl) (pv 4) zad (fun _ _=>rfl)) pa_nil)))) (fun _=>rfl))) (zbX (zbd (zaw (K:=K) rfl (zal G_51 (hr.mono (by decide)) (by rfl) T.m_51 T.F_51.kp T.b_51 .nil zav (zaa (zas (zaf (K:=K) rfl) (pv 4) zad (fun _ _=>rfl)) (zaa (zas (zaf (K:=K) rfl) (pv 4) zad (fun _ _=>rfl)) pa_nil))) (fun _=>rfl))))).pt
   (zae (zak za9)) pss_nil)
   (zab (zax (i:=5) sc_69.nd rfl (Or.inl rfl) (zal G_65 (hr.mono (by decide)) (by rfl) T.m_65 T.F_65.kp T.b_65 .nil zav (zaa (pv 0) (zaa (pv 2) (zaa (zag (zai (K:=K) rfl) (by rfl) T.z_len (by rfl) (zaa (zas (zaf (K:=K) rfl) (pv 1) zad (fun _ _=>rfl)) pa_nil)) pa_nil)))))
   (zab (zbD (i:=6) sc_69.nd rfl (Or.inl rfl) (by rfl) (zaq (sc:=zac s_69) (XN:=["_law_script","_law_made","_law_step_here","_law_exams","_law_names","_law_table_here","_law_cells","_law_first","_law_exam_here"]) (N:=["_law_k","_law_script"]) (own:=1) (js:=[0]) rfl rfl (by decide +kernel)) rfl (zaX (by rfl) T.z_range (zaa zad pa_nil)) (fun _ _ _ _ _=>(zar (i:=0) (show List.Nodup [(Str.ofString "_law_k"),(Str.ofString "_law_script")] by decide +kernel) rfl (Or.inl rfl))) (fun _ _ _ _ _=>zbl) (fun _ _ _ _ _=>(zal G_47 (hr.mono (by decide)) (by rfl) T.m_47 T.F_47.kp T.b_47 .nil zav (zaa (pv 1) (zaa (zat (op_addG) zad (pv 0)) pa_nil)))))
   (zab (zax (i:=7) sc_69.nd rfl (Or.inl rfl) (zal G_68 (hr.mono (by decide)) (by rfl) T.m_68 T.F_68.kp T.b_68 .nil zav (zaa (zas (zaf (K:=K) rfl) (pv 3) zad (fun _ _=>rfl)) (zaa (pv 1) (zaa (pv 2) (zaa (zas (zaf (K:=K) rfl) (pv 4) zad (fun _ _=>rfl)) (zaa (pv 5) (zaa zbW (zaa (pv 6) pa_nil)))))))))
   (zab (zaS (zap (op_isNN) (pv 7) zbW (zay _))
   (zae (zak za9)) pss_nil)
   (zab (zbD (i:=6) sc_69.nd rfl (Or.inl rfl) (by rfl) (zaq (sc:=zac s_69) (XN:=["_law_script","_law_made","_law_step_here","_law_exams","_law_names","_law_table_here","_law_cells","_law_first","_law_exam_here"]) (N:=["_law_cell"]) (own:=1) (js:=[]) rfl rfl (by decide +kernel)) rfl (zaI (K:=K) rfl (pv 6)) (fun _ _ _ _ _=>(zar (i:=0) (show List.Nodup [(Str.ofString "_law_cell")] by decide +kernel) rfl (Or.inl rfl))) (fun _ _ _ _ _=>zbl) (fun _ _ _ _ _=>(zat (op_fdivB) (pv 0) zad)))
   (zab (zaS (zap (op_isNN) (zal G_68 (hr.mono (by decide)) (by rfl) T.m_68 T.F_68.kp T.b_68 .nil zav (zaa (zas (zaf (K:=K) rfl) (pv 3) zad (fun _ _=>rfl)) (zaa (pv 1) (zaa (pv 2) (zaa (zas (zaf (K:=K) rfl) (pv 4) zad (fun _ _=>rfl)) (zaa (pv 5) (zaa (zas (zaf (K:=K) rfl) (pv 7) zad (fun _ _=>rfl)) (zaa (pv 6) pa_nil)))))))) zbW (zay _))
   (zae (zak za9)) pss_nil)
   (zab (za2 PassesOwn.never rfl (zaI (K:=K) rfl (pv 3)) (zar (i:=8) sc_69.nd rfl (Or.inl rfl))
   (zae (zaS (zcv (zbd (zaw (K:=K) rfl (zal G_64 (hr.mono (by decide)) (by rfl) T.m_64 T.F_64.kp T.b_64 .nil zav (zaa (zbv (pv 8) T.cl_Exam T.me_37 G_37 (hr.mono (by decide)) T.b_37 .nil zav) (zaa (zas (zaf (K:=K) rfl) (pv 4) zad (fun _ _=>rfl)) (zaa (zas (zaf (K:=K) rfl) (pv 7) zad (fun _ _=>rfl)) (zaa (pv 2) pa_nil))))) (fun _=>rfl))) (zbX (zbd (zaw (K:=K) rfl (zal G_51 (hr.mono (by decide)) (by rfl) T.m_51 T.F_51.kp T.b_51 .nil zav (zaa (zbv (pv 8) T.cl_Exam T.me_36 G_36 (hr.mono (by decide)) T.b_36 .nil zav) (zaa (zaN pa_nil) pa_nil))) (fun _=>rfl))))).pt
   (zae (zak za9)) pss_nil)))
   (zae (zak za9))))))))))))))),?_⟩
  obtain ⟨_,a,ns,rfl,hS,hl,q⟩:=h;symm;refine zf8 hS hl (by omega) (by omega) fun p ph ps pr sa ra hs rs rows H1 P1 A=>?_;have B:=A.inb;have B1:=B.lp;have B2:=B.lr;have hS1:=P1.same.seq hS;have ep:=P1.at_p;symm;refine ziT fun H2 s2=>?_;have hst:=zjL (zbz ns 0);generalize zhg (zbz ns 0)=stp at *;have P2:=P1.mono s2;have hS2:=s2.seq hS1;have ep2:=P2.at_p;have eh2:=P2.at_h;have es2:=P2.at_s;symm;refine zfH (SqL.of eh2) P2.ls B hst.1 hst.2 fun x1 F1 H3 fx1 S3 nF1 E1=>?_;have ep3:=S3 _ _ ep2;symm;refine zfH (SqL.of (S3 _ _ eh2)) (P2.ls.same S3) B hst.1 hst.2 fun x2 F2 H4 fx2 S4 nF2 E2=>?_;have E1':=E1.same S4;have S24:=S3.trans S4;have dis0:∀ y,F1 y→¬F2 y:=fun y h1 h2=>by obtain ⟨o,e⟩:=ExAt.has E1 h1;exact nF2 _ _ e h2
  have nF2':∀ c o,H2 c=some o→¬F2 c:=fun c o e=>nF2 _ _ (S3 _ _ e);symm;refine zau (by simp) fun px H4' fpx S4' epx=>?_;have E1p:=E1'.same S4';have E2p:=E2.same S4';have S24p:=S24.trans S4';have npx1:¬F1 px:=E1'.new fpx;have npx2:¬F2 px:=E2.new fpx;obtain ⟨dx6,fs6,hob6,hlk6⟩:=E1p.ob;symm;refine zaO hob6 (hlk6 _ (by decide +kernel)) ?_;symm;refine zfc E1p B rfl (fun F0=>absurd (F0 rows) (by rw [A.right];decide)) (fun tt FD H5 G1 f5 E1d=>?_);obtain ⟨hr,hmin⟩:zaW hs rs tt=true∧∀ rows,zaW hs rs rows=true→nbB tt rows=true:=FD;obtain ⟨nG1,S25⟩:=f5.nf S24p nF1;obtain ⟨kp2,dis1⟩:=far f5 dis0 (fun y h=>ExAt.has E2p h);have E2':ExAt t.C_Exam H5 x2 F2 ⟨hs,rs,stp,none⟩:=E2p.keep fun b o hb e=>kp2 b o hb e;obtain ⟨dx7,fs7,hob7,hlk7⟩:=E2'.ob;have epx5:=f5.kp _ _ epx npx1;have npx1':¬G1 px:=fun z=>(f5.fp px z).elim npx1 fun z=>by rw [epx] at z;cases z
  symm;refine iteF ?_;symm;refine zaO hob7 (hlk7 _ (by decide +kernel)) ?_;symm;refine zfc E2' B rfl (fun F0=>absurd (F0 rows) (by rw [A.right];decide)) (fun tt2 FD2 H6 G2 f6 E2d=>?_);obtain ⟨hr2,hmin2⟩:zaW hs rs tt2=true∧∀ rows,zaW hs rs rows=true→nbB tt2 rows=true:=FD2;have RP:=zc1.mp hr;have RP2:=zc1.mp hr2;have hlen:=RP.len;have hlen2:=RP2.len;have htt:tt2=tt:=nb_anti (by omega) (fun i hi=>RP2.two i (by omega)) (fun i hi=>RP.two i (by omega)) (hmin2 tt hr) (hmin tt2 hr2);subst htt;obtain ⟨nG2,S26⟩:=f6.nf S25 nF2';obtain ⟨kp1,dis2⟩:=far f6 (fun y h2 h1=>dis1 y h1 h2) (fun y h=>ExAt.has E1d h);have E16:ExAt t.C_Exam H6 x1 G1 (S0 hs rs tt2 stp):=E1d.keep fun b o hb e=>kp1 b o hb e;have E26:ExAt t.C_Exam H6 x2 G2 (S0 hs rs tt2 stp):=E2d;have W0:=E16.wf;have epx6:=f6.kp _ _ epx5 npx2;have npx2':¬G2 px:=fun z=>(f6.fp px z).elim npx2 fun z=>by rw [epx5] at z;cases z
  have P6:=P2.mono S26;have ep6:=P6.at_p;have eh6:=P6.at_h;symm;refine iteF ?_;symm;refine zds E16 B ⟨fun z=>absurd z (by simp),fun nm en z p8 H7 R8=>?_⟩;obtain ⟨rfl,rfl⟩:nm=tt2∧en=[]:=by
   injection z with z;injection z with z1 z2;exact ⟨z1.symm,z2.symm⟩
  rw [zic hr] at R8;have E17:=E16.same R8.same;have E27:=E26.same R8.same;have epx7:=R8.same _ _ epx6;symm;refine zds E27 B ⟨fun z=>absurd z (by simp),fun nm2 en2 z p9 H8 R9=>?_⟩;obtain ⟨rfl,rfl⟩:nm2=nm∧en2=[]:=by
   injection z with z;injection z with z1 z2;exact ⟨z1.symm,z2.symm⟩
  rw [zic hr] at R9;symm;refine zau (by simp) fun pn H9 fpn s9 epn=>?_;have S69:=(R8.same.trans R9.same).trans s9;have S29:=S26.trans S69;have P9:=P2.mono S29;have ep9:=P9.at_p;have eh9:=P9.at_h;have R89:=R8.mono (R9.same.trans s9);have R99:=R9.mono s9;obtain ⟨za,hza,hzal⟩:=R89.lst;obtain ⟨zb,hzb,hzbl⟩:=R99.lst;symm;refine zhB (SqL.of eh9) P9.ls B.r2 ⟨_,hza⟩ R89.ll (by omega) (by omega) (by omega) fun H10 s10=>?_;have epn10:=s10 _ _ epn;symm;rw [hr];refine iteF ?_;symm;refine zea ⟨_,s10 _ _ hzb⟩ (R99.ll.same s10) (R89.ll.same s10) (by omega) (fun i hi=>by rw [RP.two i (by omega)];decide) ?_;rw [decide_eq_true rfl];symm;refine iteF ?_;have S610:=S69.trans s10;have S210:=S26.trans S610;have P10:=P2.mono S210;have ep10:=P10.at_p;have eh10:=P10.at_h;have hS10:=S210.seq hS2;symm;refine zhC hS10 hl (by omega) (by omega) fun tb H11 tab RT htl htr=>?_;have hS11:=RT.same.seq hS10;symm;refine zb3 (by decide) (by decide) ?_;refine zdM (zbE _ _ _) (by decide) (fun k=>zbz ns (31+(0+(k:Int)))) (fun k H' Q' hk s' q'=>?_) fun cw H12 fcw s12 ecw=>?_
  ·have hS':=s'.seq hS11;symm;exact q'
  have S612:=(S610.trans RT.same).trans s12;have S212:=S26.trans S612;have E112:=E16.same S612;have E212:=E26.same S612;obtain ⟨sb8,n8,psn,hn,hnl,hnd,hnr⟩:=id (R89.mono (s10.trans (RT.same.trans s12)));obtain ⟨sb9,n9,psm,hm9,hml,hmd,hmr⟩:=id (R99.mono (s10.trans (RT.same.trans s12)));obtain ⟨ptb,tb1,tb2,tb3,tb4⟩:=RT.rows;have S712:Same H7 H12:=(R9.same.trans s9).trans (s10.trans (RT.same.trans s12));have hmn:∀ y∈p8::psn,H6 y=none∧∃ o,H7 y=some o:=fun y hy=>by
   obtain ⟨_,_,psn0,hn0,hl0,_,hr0⟩:=id R8;have epsn:psn0=psn:=by
    have h1:=S712 _ _ hn0;rw [hn] at h1;exact (map_ref_inj (HO.lst.inj (Option.some.inj h1))).symm
   subst epsn;rcases mem_cons.mp hy with z | z
   ·rw [z];exact ⟨n8,_,hn0⟩
   ·obtain ⟨i,hi,ei⟩:=L2.mem_getD (d:=0) z;have:=hr0 i (by omega);rw [ei] at this;exact ⟨this.2.1,_,this.1⟩
  have hmm:∀ y∈p9::psm,H7 y=none∧∃ o,H12 y=some o:=fun y hy=>by
   rcases mem_cons.mp hy with z | z
   ·rw [z];exact ⟨n9,_,hm9⟩
   ·obtain ⟨i,hi,ei⟩:=L2.mem_getD (d:=0) z;have:=hmr i (by omega);rw [ei] at this;exact ⟨this.2.1,_,this.1⟩
  have htn:∀ y,y=tb∨y∈ptb→H10 y=none:=fun y hy=>by
   rcases hy with z | z
   ·rw [z];exact RT.new
   ·obtain ⟨i,hi,ei⟩:=L2.mem_getD (d:=0) z;rw [← ei];exact (tb4 i (by omega)).2.1
  have inA:∀ y,y∈ph::ps::(sa++[])→∃ o,H2 y=some o:=fun y hy=>by
   simp only [mem_cons,append_nil] at hy;rcases hy with z | z | z
   ·exact ⟨_,z▸eh2⟩
   ·exact ⟨_,z▸es2⟩
   ·obtain ⟨i,hi,ei⟩:=L2.mem_getD (d:=0) z;exact ⟨_,ei▸P2.s_at i (by rw [← P2.sl];exact hi)⟩
  have hap:=P2.apart;simp only [nodup_cons,mem_cons,mem_append,not_or] at hap;have base:∀ (G:Addr→Prop) (X:List Addr) (Hx:Hp),∃ Hb:Hp,Same Hb Hx∧(∀ y u,Hb y=some u→¬G y∧y∉X)∧∀ y u,Hx y=some u→¬G y→y∉X→Hb y=some u:=fun G X Hx=>by
   classical
   refine ⟨fun y=>if G y∨y∈X then none else Hx y,fun y u e=>?_,fun y u e=>?_,fun y u e n1 n2=>?_⟩
   ·by_cases h:G y∨y∈X
    ·simp only [if_pos h] at e;cases e
    ·simp only [if_neg h] at e;exact e
   ·by_cases h:G y∨y∈X
    ·simp only [if_pos h] at e;cases e
    ·exact ⟨fun z=>h (.inl z),fun z=>h (.inr z)⟩
   ·simp only [if_neg (show ¬(G y∨y∈X) from fun h=>h.elim n1 n2)];exact e
  have h2t:∀ k,k < nm2.length→(nm2.getD k []).length=2:=fun k hk=>RP.two k (by omega);have hnt:∀ k,k < nm2.length→(nm2.getD k []).getD 0 0≠(nm2.getD k []).getD 1 0:=fun k hk=>by have:=RP.lt k (by omega);omega
  have hX1:∀ y∈ph::ps::p8::(sa++psn),∃ o,H7 y=some o:=fun y hy=>by
   simp only [mem_cons,mem_append] at hy;have up:∀ y,(∃ o,H2 y=some o)→∃ o,H7 y=some o:=fun y ⟨o,e⟩=>⟨o,R8.same _ _ (S26 _ _ e)⟩
   rcases hy with z | z | z | z | z
   ·exact up y ⟨_,z▸eh2⟩
   ·exact up y ⟨_,z▸es2⟩
   ·exact (hmn y (by rw [z];exact mem_cons_self)).2
   ·exact up y (inA y (by simp [z]))
   ·exact (hmn y (mem_cons_of_mem _ z)).2
  have nX1:∀ y,H7 y=none→y∉ph::ps::p8::(sa++psn):=fun y hy z=>by
   obtain ⟨o,e⟩:=hX1 y z;rw [hy] at e;cases e
  have S710:Same H7 H10:=R9.same.trans (s9.trans s10);have S711:=S710.trans RT.same;have nG7:∀ y,H7 y=none→¬G1 y∧¬G2 y:=fun y hy=>⟨E17.new hy,E27.new hy⟩
  have pX1:p∉ph::ps::p8::(sa++psn):=fun z=>by
   simp only [mem_cons,mem_append] at z;rcases z with z | z | z | z | z
   ·exact hap.1.1 z
   ·exact hap.1.2.1 z
   ·have:=(hmn p (by rw [z];exact mem_cons_self)).1;rw [S26 _ _ ep2] at this;cases this
   ·exact hap.1.2.2.2.1 z
   ·have:=(hmn p (mem_cons_of_mem _ z)).1;rw [S26 _ _ ep2] at this;cases this
  obtain ⟨Hb,hb1,hb2,hb3⟩:=base G1 (ph::ps::p8::(sa++psn)) H12;have tb12:H12 tb=some (.lst (ptb.map V.ref)):=s12 _ _ tb1;have t7:∀ y,y=tb∨y∈ptb→H7 y=none:=fun y hy=>S710.free (htn y hy);have LTb:LL K Hb tb tab:=⟨ptb,SqL.of (hb3 _ _ tb12 (nG7 _ (t7 _ (.inl rfl))).1 (nX1 _ (t7 _ (.inl rfl)))),tb2,fun i hi=>hb3 _ _ (s12 _ _ (tb4 i hi).1) (nG7 _ (t7 _ (.inr (zb0 (by omega))))).1 (nX1 _ (t7 _ (.inr (zb0 (by omega)))))⟩
  have cw7:H7 cw=none:=S711.free fcw;have hled1:∀ d H1',H12 d=none→Same H12 H1'→H1' d=some (.lst [])→Both t.C_Exam emp H1' x1 G1 (S0 hs rs nm2 stp) ⟨ph,ps,p8,d,sa,psn,[]⟩:=fun d H1' fd sd ed=>by
   refine (Both.mk0 (H0:=H2) (E112.same sd) B (S212.trans sd) nG1 eh2 es2 P2.sl P2.s_at P2.nd (sd _ _ hn) hnl (fun i hi=>sd _ _ (hnr i hi).1) hnd (fun z=>?_) ed (fun z=>?_) (fun y hy=>?_)).weak
   ·obtain ⟨i,hi,ei⟩:=L2.mem_getD (d:=0) z;exact (hnr i (by omega)).2.2 ei
   ·obtain ⟨o,e⟩:=(hmn d z).2;rw [S712 _ _ e] at fd;cases fd
   ·rcases mem_cons.mp hy with z | z
    ·rw [z];exact ⟨S212.free fd,E112.new fd⟩
    ·exact ⟨S26.free (hmn y z).1,E16.new (hmn y z).1⟩
  have epx12:=S712 _ _ epx7;have epn12:=(RT.same.trans s12) _ _ epn10;have ep12:=S212 _ _ ep2;symm;refine zg0 (x:=x1) (m:=p) (c:=p8) (tb:=tb) (cw:=cw) (Hb:=Hb) (F:=G1) (a:=ph) (b:=ps) (ps:=sa) (qs:=psn) (tt:=nm2) (tab:=tab) (cs:=(List.range 30).map fun k:Nat=>zbz ns (31+(0+(k:Int)))) none hb1 hb2 (hb3 _ _ ep12 (nG1 _ _ ep2) pX1) LTb htr (by omega) (SqL.of (hb3 _ _ ecw (nG7 _ cw7).1 (nX1 _ cw7))) (by simp) (.inl ⟨rfl,rfl⟩) B W0 h2t hnt hled1 fun H13 G1' d1 es1 L1 la1 pr1 lw1 T1 _ hdue1 BB1 epr elw fpr flw fd1 hes1 fr13 fp13 npr nlw=>?_;have cw13:=fr13 _ _ ecw (nG7 _ cw7).1 (nX1 _ cw7);symm;rw [decide_eq_false (show ¬V.ref pr1=V.non by intro z;cases z)];refine iteF ?_;symm;refine zaT (SqL.of cw13) ?_;refine zdM (zbe (SqL.of cw13)) (by rw [length_map,length_map,length_range];decide) (fun k=>((List.range 30).map fun k:Nat=>zbz ns (31+(0+(k:Int)))).getD k 0 / 32) (fun k H' Q' hk s' q'=>?_) fun cw2 H14 fcw2 s14 ecw2=>?_
  ·rw [length_map] at hk;rw [zcz hk];symm;exact q'
  have hc2:(((List.range (((List.range 30).map fun k:Nat=>zbz ns (31+(0+(k:Int)))).map V.int).length).map fun k=>((List.range 30).map fun k:Nat=>zbz ns (31+(0+(k:Int)))).getD k 0 / 32)).length=30:=by rw [length_map,length_range,length_map,length_map,length_range]
  have nG2X:∀ y,G2 y→¬G1 y∧y∉ph::ps::p8::(sa++psn):=fun y hy=>⟨dis2 y hy,fun z=>by
   simp only [mem_cons,mem_append] at z;rcases z with z | z | z | z | z
   ·exact nG2 _ _ (z▸eh2) hy
   ·exact nG2 _ _ (z▸es2) hy
   ·exact E26.new (hmn y (by rw [z];exact mem_cons_self)).1 hy
   ·obtain ⟨o,e⟩:=inA y (by simp [z]);exact nG2 _ _ e hy
   ·exact E26.new (hmn y (mem_cons_of_mem _ z)).1 hy⟩
  have E213:ExAt t.C_Exam H13 x2 G2 (S0 hs rs nm2 stp):=E212.keep fun y o hy e=>fr13 y o e (nG2X y hy).1 (nG2X y hy).2;have L13:=BB1.led;have lhs:(runS (S0 hs rs nm2 stp) L1).hs=hs:=(zda (S0 hs rs nm2 stp) L1).1;have lrs:(runS (S0 hs rs nm2 stp) L1).rs=rs:=(zda (S0 hs rs nm2 stp) L1).2.1;have eh13:H13 ph=some (.lst (hs.map V.int)):=by have:=L13.ha;rw [lhs] at this;exact this
  have es13:H13 ps=some (.lst (sa.map V.ref)):=L13.hb;have sa13:∀ i,i < rs.length→H13 (sa.getD i 0)=some (.lst ((rs.getD i []).map V.int)):=fun i hi=>by have:=L13.rp i (by rw [lrs];exact hi);rw [lrs] at this;exact this
  have S213:Same H2 H13:=fun y u e=>by
   by_cases hy:y∈ph::ps::p8::(sa++psn)
   ·simp only [mem_cons,mem_append] at hy;rcases hy with z | z | z | z | z
    ·rw [z] at e ⊢;rw [eh2] at e;rw [eh13];exact e
    ·rw [z] at e ⊢;rw [es2] at e;rw [es13];exact e
    ·have:=(hmn y (by rw [z];exact mem_cons_self)).1;rw [S26 _ _ e] at this;cases this
    ·obtain ⟨i,hi,ei⟩:=L2.mem_getD (d:=0) z;have hi':i < rs.length:=by rw [← P2.sl];exact hi
     rw [← ei] at e ⊢;rw [P2.s_at i hi'] at e;rw [sa13 i hi'];exact e
    ·have:=(hmn y (mem_cons_of_mem _ z)).1;rw [S26 _ _ e] at this;cases this
   ·exact fr13 y u (S212 _ _ e) (nG1 _ _ e) hy
  have S214:=S213.trans s14;have E214:=E213.same s14;have keep7:∀ y u,H7 y=none→H12 y=some u→H13 y=some u:=fun y u h7 e=>fr13 y u e (nG7 y h7).1 (nX1 y h7);have hm13:=keep7 _ _ n9 hm9;have hX2:∀ y∈ph::ps::p9::(sa++psm),∃ o,H12 y=some o:=fun y hy=>by
   simp only [mem_cons,mem_append] at hy;have up:∀ y,(∃ o,H2 y=some o)→∃ o,H12 y=some o:=fun y ⟨o,e⟩=>⟨o,S212 _ _ e⟩
   rcases hy with z | z | z | z | z
   ·exact up y ⟨_,z▸eh2⟩
   ·exact up y ⟨_,z▸es2⟩
   ·exact (hmm y (by rw [z];exact mem_cons_self)).2
   ·exact up y (inA y (by simp [z]))
   ·exact (hmm y (mem_cons_of_mem _ z)).2
  have nX2:∀ y,H12 y=none→y∉ph::ps::p9::(sa++psm):=fun y hy z=>by
   obtain ⟨o,e⟩:=hX2 y z;rw [hy] at e;cases e
  have S89:Same H8 H12:=s9.trans (s10.trans (RT.same.trans s12));have nX2b:∀ y,H8 y=none→y∉ph::ps::p9::(sa++psm):=fun y hy z=>by
   simp only [mem_cons,mem_append] at z;have up:(∃ o,H2 y=some o)→False:=fun ⟨o,e⟩=>by rw [R9.same _ _ (R8.same _ _ (S26 _ _ e))] at hy;cases hy
   obtain ⟨_,_,psm0,hm0,hl0,_,hr0⟩:=id R9;have epsm:psm0=psm:=by
    have h1:=S89 _ _ hm0;rw [hm9] at h1;exact (map_ref_inj (HO.lst.inj (Option.some.inj h1))).symm
   subst epsm;rcases z with z | z | z | z | z
   ·exact up ⟨_,z▸eh2⟩
   ·exact up ⟨_,z▸es2⟩
   ·rw [z,hm0] at hy;cases hy
   ·exact up (inA y (by simp [z]))
   ·obtain ⟨i,hi,ei⟩:=L2.mem_getD (d:=0) z;have:=(hr0 i (by omega)).1;rw [ei,hy] at this;cases this
  have pX2:p∉ph::ps::p9::(sa++psm):=fun z=>by
   simp only [mem_cons,mem_append] at z;rcases z with z | z | z | z | z
   ·exact hap.1.1 z
   ·exact hap.1.2.1 z
   ·have:=(hmm p (by rw [z];exact mem_cons_self)).1;rw [R8.same _ _ (S26 _ _ ep2)] at this;cases this
   ·exact hap.1.2.2.2.1 z
   ·have:=(hmm p (mem_cons_of_mem _ z)).1;rw [R8.same _ _ (S26 _ _ ep2)] at this;cases this
  obtain ⟨Hc,hc1,hc2',hc3⟩:=base G2 (ph::ps::p9::(sa++psm)) H14;have t8:∀ y,y=tb∨y∈ptb→H8 y=none:=fun y hy=>(s9.trans s10).free (htn y hy);have tb14:∀ y u,(y=tb∨y∈ptb)→H12 y=some u→Hc y=some u:=fun y u hy e=>hc3 _ _ (s14 _ _ (keep7 _ _ (t7 y hy) e)) (nG7 _ (t7 y hy)).2 (nX2b _ (t8 y hy));have LTc:LL K Hc tb tab:=⟨ptb,SqL.of (tb14 _ _ (.inl rfl) tb12),tb2,fun i hi=>tb14 _ _ (.inr (zb0 (by omega))) (s12 _ _ (tb4 i hi).1)⟩
  have h14n:∀ y,H13 y=none→H12 y=none∨G1 y:=fun y hy=>by
   cases hh:H12 y with
   | none=>exact .inl rfl
   | some u =>
     by_cases hG:G1 y
     ·exact .inr hG
     ·by_cases hq:y∈ph::ps::p8::(sa++psn)
      ·exfalso;have:∃ o,H13 y=some o:=BB1.led.mem (by
        unfold LdA.all;simp only [mem_cons,mem_append] at hq ⊢;rcases hq with z | z | z | z | z
        ·exact .inl z
        ·exact .inr (.inl z)
        ·exact .inr (.inr (.inl z))
        ·exact .inr (.inr (.inr (.inr (.inl z))))
        ·exact .inr (.inr (.inr (.inr (.inr (.inl z))))))
       obtain ⟨o,e⟩:=this;rw [hy] at e;cases e
      ·rw [fr13 y u hh hG hq] at hy;cases hy
  have cw2G:¬G2 cw2:=E213.new fcw2;have hnX2c:cw2∉ph::ps::p9::(sa++psm):=fun z=>by
   have:∃ o,H13 cw2=some o:=by
    simp only [mem_cons,mem_append] at z;rcases z with z | z | z | z | z
    ·exact ⟨_,z▸eh13⟩
    ·exact ⟨_,z▸es13⟩
    ·exact ⟨_,z▸hm13⟩
    ·obtain ⟨o,e⟩:=inA cw2 (by simp [z]);exact ⟨o,S213 _ _ e⟩
    ·obtain ⟨h7,o,e⟩:=hmm cw2 (mem_cons_of_mem _ z);exact ⟨o,keep7 _ _ h7 e⟩
   obtain ⟨o,e⟩:=this;rw [fcw2] at e;cases e
  have FO1:zi3 (apT (fun k=>tab.getD k []) stp) nm2.length la1:=⟨T1.nd,fun k=>⟨fun hk=>⟨((T1.mem k).mp hk).1,zov T1.ok (by have:=((T1.mem k).mp hk).2;omega)⟩,fun hk=>(T1.mem k).mpr ⟨hk.1,T1.full h2t hdue1 k hk.2⟩⟩⟩
  have lwG:¬G2 lw1:=E212.new flw;have elw14:=hc3 _ _ (s14 _ _ elw) lwG (nX2 _ flw);have hled2:∀ d H1',H14 d=none→Same H14 H1'→H1' d=some (.lst [])→Both t.C_Exam emp H1' x2 G2 (S0 hs rs nm2 stp) ⟨ph,ps,p9,d,sa,psm,[]⟩:=fun d H1' fd sd ed=>by
   refine (Both.mk0 (H0:=H2) (E214.same sd) B (S214.trans sd) nG2 eh2 es2 P2.sl P2.s_at P2.nd (sd _ _ (s14 _ _ hm13)) hml (fun i hi=>sd _ _ (s14 _ _ (keep7 _ _ (hmr i hi).2.1 (hmr i hi).1))) hmd (fun z=>?_) ed (fun z=>?_) (fun y hy=>?_)).weak
   ·obtain ⟨i,hi,ei⟩:=L2.mem_getD (d:=0) z;exact (hmr i (by omega)).2.2 ei
   ·obtain ⟨h7,o,e⟩:=hmm d z;rw [s14 _ _ (keep7 _ _ h7 e)] at fd;cases fd
   ·rcases mem_cons.mp hy with z | z
    ·rw [z];exact ⟨S214.free fd,E214.new fd⟩
    ·exact ⟨(S26.trans R8.same).free (hmm y z).1,E27.new (hmm y z).1⟩
  have offp:∀ y u,H6 y=some u→H4 y=none→y∉ph::ps::(sa++[])∧y∉p8::psn∧y∉p9::psm:=fun y u e h4=>by
   refine ⟨fun z=>?_,fun z=>?_,fun z=>?_⟩
   ·obtain ⟨o,e2⟩:=inA y z;rw [S24 _ _ e2] at h4;cases h4
   ·have:=(hmn y z).1;rw [e] at this;cases this
   ·have:=(hmm y z).1;rw [R8.same _ _ e] at this;cases this
  obtain ⟨po1,po2,po3⟩:=offp px _ epx6 fpx;have pxX1:px∉ph::ps::p8::(sa++psn):=fun z=>by
   simp only [mem_cons,mem_append,append_nil,not_or] at z po1 po2;rcases z with z | z | z | z | z
   ·exact po1.1 z
   ·exact po1.2.1 z
   ·exact po2.1 z
   ·exact po1.2.2 z
   ·exact po2.2 z
  have pxX2:px∉ph::ps::p9::(sa++psm):=fun z=>by
   simp only [mem_cons,mem_append,append_nil,not_or] at z po1 po3;rcases z with z | z | z | z | z
   ·exact po1.1 z
   ·exact po1.2.1 z
   ·exact po3.1 z
   ·exact po1.2.2 z
   ·exact po3.2 z
  have epx13:H13 px=some (.lst [.ref x1,.ref x2]):=fr13 _ _ epx12 npx1' pxX1;have epx14:=s14 _ _ epx13;have ep14:=S214 _ _ ep2;have epn14:=s14 _ _ (keep7 _ _ (R9.same.free fpn) epn12);have epr14:=s14 _ _ epr;symm;refine zg0 (x:=x2) (m:=p) (c:=p9) (tb:=tb) (cw:=cw2) (Hb:=Hc) (F:=G2) (a:=ph) (b:=ps) (ps:=sa) (qs:=psm) (tt:=nm2) (tab:=tab) (some la1) hc1 hc2' (hc3 _ _ ep14 (nG2 _ _ ep2) pX2) LTc htr (by omega) (SqL.of (hc3 _ _ ecw2 cw2G hnX2c)) hc2 (.inr ⟨la1,lw1,rfl,rfl,SqL.of elw14,⟨_,elw14⟩,FO1⟩) B W0 h2t hnt hled2 fun H15 G2' d2 es2' L2' la2 pr2 lw2 T2 hpre2 hdue2 BB2 epr2 elw2 fpr2 flw2 fd2 hes2 fr15 fp15 npr2 nlw2=>?_;obtain ⟨z2,hz2⟩:=hpre2 la1 rfl;have hla:=Lat.same T1 T2 h2t hdue1 hdue2 hz2 (fun k hk=>((FO1.mem k).mp hk).2);have hnm2:(runS (S0 hs rs nm2 stp) L2').nm=(runS (S0 hs rs nm2 stp) L1).nm:=by rw [T1.nm,T2.nm,hla]
  have hent:=Lat.ent T1 T2 hnm2 hdue1 hdue2;have ok2:∀ y,(H12 y=none∨G1 y∨y∈p8::psn)→¬G2 y∧y∉ph::ps::p9::(sa++psm):=fun y hy=>by
   rcases hy with h | h | h
   ·exact ⟨E212.new h,nX2 y h⟩
   ·refine ⟨fun z=>dis2 y z h,fun z=>?_⟩;simp only [mem_cons,mem_append] at z;rcases z with z | z | z | z | z
    ·exact nG1 _ _ (z▸eh2) h
    ·exact nG1 _ _ (z▸es2) h
    ·exact (nG7 _ (hmm y (by rw [z];exact mem_cons_self)).1).1 h
    ·obtain ⟨o,e⟩:=inA y (by simp [z]);exact nG1 _ _ e h
    ·exact (nG7 _ (hmm y (mem_cons_of_mem _ z)).1).1 h
   ·obtain ⟨h6,o7,e7⟩:=hmn y h;refine ⟨E26.new h6,fun z=>?_⟩;simp only [mem_cons,mem_append] at z;have up:(∃ o,H2 y=some o)→False:=fun ⟨o,e⟩=>by rw [S26 _ _ e] at h6;cases h6
    rcases z with z | z | z | z | z
    ·exact up ⟨_,z▸eh2⟩
    ·exact up ⟨_,z▸es2⟩
    ·have:=(hmm y (by rw [z];exact mem_cons_self)).1;rw [e7] at this;cases this
    ·exact up (inA y (by simp [z]))
    ·have:=(hmm y (mem_cons_of_mem _ z)).1;rw [e7] at this;cases this
  have E115:ExAt t.C_Exam H15 x1 G1' (runS (S0 hs rs nm2 stp) L1):=(BB1.ex.same s14).keep fun y o hy e=>by
   have:=ok2 y ((fp13 y hy).elim (fun z=>.inr (.inl z)) .inl);exact fr15 y o e this.1 this.2
  have E215:=BB2.ex;have k15:∀ y u,(H12 y=none∨G1 y∨y∈p8::psn)→H13 y=some u→H15 y=some u:=fun y u hy e=>fr15 y u (s14 _ _ e) (ok2 y hy).1 (ok2 y hy).2;have LC15:LL K H15 p8 (runS (S0 hs rs nm2 stp) L1).nm:=⟨psn,SqL.of (k15 _ _ (.inr (.inr mem_cons_self)) L13.hc),L13.lq,fun i hi=>k15 _ _ (.inr (.inr (mem_cons_of_mem _ (zb0 (by have hq:psn.length=(runS (S0 hs rs nm2 stp) L1).nm.length:=L13.lq;omega))))) (L13.rq i hi)⟩
  have en1:=en0 (hs:=hs) (rs:=rs) (tt:=nm2) (stp:=stp) L1;have en2':=en0 (hs:=hs) (rs:=rs) (tt:=nm2) (stp:=stp) L2';have LD15:LL K H15 d1 (L1.map rowE):=by
   have h1:=L13.le;have h2:=L13.re;rw [en1] at h1 h2;exact ⟨es1,SqL.of (k15 _ _ (.inl fd1) L13.hd),h1,fun i hi=>k15 _ _ ((hes1 _ (zb0 (by have h1':es1.length=(L1.map rowE).length:=h1;omega))).elim .inl (fun z=>.inr (.inl z))) (h2 i hi)⟩
  have epx15:=fr15 _ _ epx14 npx2' pxX2;have epn15:=fr15 _ _ epn14 (nG7 _ (R9.same.free fpn)).2 (nX2b _ fpn);have epr15:H15 pr1=some (.lst [.ref lw1,.ref d1]):=k15 _ _ (fpr.elim .inl (fun z=>.inr (.inl z))) epr;have W1:=BB1.ex.wf;have W2:=BB2.ex.wf;have hd1:=BB1.dl;have hd2:=BB2.dl;have u3:(runS (S0 hs rs nm2 stp) L1).step=stp:=(zda (S0 hs rs nm2 stp) L1).2.2.1;have w3:(runS (S0 hs rs nm2 stp) L2').step=stp:=(zda (S0 hs rs nm2 stp) L2').2.2.1;have hM1:=zg5 W1 hd1 (nm:=(runS (S0 hs rs nm2 stp) L1).nm) (en:=L1.map rowE) (s:=stp) rfl u3 (fun k r=>by rw [en1]);have hM2:=zg5 W2 hd2 (nm:=(runS (S0 hs rs nm2 stp) L1).nm) (en:=L1.map rowE) (s:=stp) hnm2 w3 (fun k r=>by rw [en2',hent]);have hD1:dueS (runS (S0 hs rs nm2 stp) L1)=[]:=by show dueB _ _=[];rw [en1];exact hdue1
  have hD2:dueS (runS (S0 hs rs nm2 stp) L2')=[]:=by show dueB _ _=[];rw [en2'];exact hdue2
  have hwant:=ze0.mp hdue1;have hro:=W1.row;rw [en1] at hro;have hpts:∀ k,∀ z∈ptsOf (runS (S0 hs rs nm2 stp) L1).nm (L1.map rowE) k,0≤z∧z≤100:=fun k z hz=>W1.ptsOf (k:=k) (by rw [en1];exact hz);have B115:=BB1.inb;have B215:=BB2.inb;have hl10:(runS (S0 hs rs nm2 stp) L1).nm.length≤10:=W1.n10 B115;generalize hst1:runS (S0 hs rs nm2 stp) L1=st1 at *;generalize hst2:runS (S0 hs rs nm2 stp) L2'=st2 at *;symm;rw [decide_eq_false (show ¬V.ref pr2=V.non by intro z;cases z)];refine iteF ?_;symm;refine zaT (SqL.of epx15) ?_;refine zbL (xs:=[V.ref x1,V.ref x2]) (fun j σ J=>∃ v8,σ=[some (.ref a),some (.ref p),some (.int stp),some (.ref px),some (.ref pn),some (.ref tb),some (.ref cw2),some (.ref pr1),v8]∧Same H15 J) ⟨none,rfl,Same.refl _⟩ ?_ ?_ ?_
  ·rintro j σ J _ ⟨_,_,sJ⟩;exact SqL.of (sJ _ _ epx15)
  ·rintro j y σ J hy ⟨v8,rfl,sJ⟩;have hj:j < 2:=(List.getElem?_eq_some_iff.mp hy).1;have hcase:∃ (x:Addr) (G:Addr→Prop) (st:ExS),y=.ref x∧ExAt t.C_Exam J x G st∧InB st.hs st.rs∧zcO st=(List.range st1.nm.length).map (zbM st1.nm (L1.map rowE) stp)∧dueS st=[]:=by
    match j,hj,hy with
    | 0,_,hy =>
      have hy:some (V.ref x1)=some y:=hy;exact ⟨x1,G1',st1,(Option.some.inj hy).symm,E115.same sJ,B115,hM1,hD1⟩
    | 1,_,hy =>
      have hy:some (V.ref x2)=some y:=hy;exact ⟨x2,G2',st2,(Option.some.inj hy).symm,E215.same sJ,B215,hM2,hD2⟩
   obtain ⟨x,G,st,rfl,EJ,BJ,hMJ,hDJ⟩:=hcase;have epnJ:=sJ _ _ epn15;have eprJ:=sJ _ _ epr15;symm;refine zg4 EJ BJ fun mk J2 M2=>?_;rw [hMJ] at M2;have EJ2:=EJ.same M2.same;have sJ2:=sJ.trans M2.same;have epnJ2:=sJ2 _ _ epn15;have eprJ2:=sJ2 _ _ epr15;symm;refine zew st1.rs.length M2 (LC15.same sJ2) (LD15.same sJ2) hl10 (zn1 L1) hro hwant hpts fun J3 s3=>?_;have EJ3:=EJ2.same s3;symm;refine iteF ?_;symm;refine zi6 EJ3 BJ fun w J4 R4=>?_;rw [hDJ] at R4;obtain ⟨zs,hz,_⟩:=R4.lst;symm;refine zau (by decide) fun w5 J5 g5 s5 e5=>?_;symm;refine zea ⟨_,s5 _ _ hz⟩ (R4.ll.same s5) (⟨[],SqL.of e5,rfl,fun i hi=>absurd hi (by simp)⟩:LL K J5 w5 []) (by simp) (fun i hi=>absurd hi (by simp)) ?_;rw [decide_eq_true rfl];symm;refine iteF ?_;symm;exact ⟨_,rfl,((sJ2.trans s3).trans R4.same).trans s5⟩
  ·rintro σ J ⟨v8,rfl,sJ⟩;symm;exact q _
theorem law_start {a:Addr} {ns:List Int} {H:Hp} (hl:ns.length≤63) (hS:SqL K H a (ns.map V.int)):zg6 K [.ref a] H (fun v _=>v=.bl true) fun _ _ _=>False:=⟨rfl,a,ns,rfl,hS,hl,fun _=>rfl⟩
end
abbrev FnO (n q:Str) (s:Stmt) (oc:Value) (od:Option Addr) (kV dc pm:Value) (an:Option Addr) (cd ct:Value) (sl:Array (Option Value)):Obj:=⟨oc,od,.func (fnOf n q (zan s) (zam s) (zac s) .none kV dc pm an cd ct),sl⟩
theorem zn3 {l:PySem.W.OpenLaw} {w:World} {K:PySem.W.Frag} {h:Heap} {mg:Str→Option Value} {fa:Addr} (X:K.In h) (G:h.Ns mainGlobals mg) (hfa:mg "law"=some (.ref fa))
  {C_Attempt:Addr} (aC_Attempt:nsIn K mainGlobals "Attempt"=some (some (.ref C_Attempt)))
  {C_Exam:Addr} (aC_Exam:nsIn K mainGlobals "Exam"=some (some (.ref C_Exam)))
  {tk_READERS_EACH:Tok}
  {tk_MOST_HOUSES:Tok}
  {tk_MOST_PAPERS:Tok}
  {tk_MOST_LIMIT:Tok}
  {tk_MOST_READERS:Tok}
  {tk_MOST_STEP:Tok}
  {tk_MOST_POINTS:Tok}
  (a0:nsIn K mainGlobals "_law_at"=some (some (.ref f0))) (l0:K.lookup f0=some (FnO "_law_at" "_law_at" s_47 oc0 od0 kV0 dc0 pm0 an0 cd0 ct0 sl0)) (c0:codeIn K cd0 "_law_at"=true) (k0:keepIn K (.ref f0)=true)
  (a1:nsIn K mainGlobals "_law_planted"=some (some (.ref f1))) (l1:K.lookup f1=some (FnO "_law_planted" "_law_planted" s_52 oc1 od1 kV1 dc1 pm1 an1 cd1 ct1 sl1)) (c1:codeIn K cd1 "_law_planted"=true) (k1:keepIn K (.ref f1)=true)
  (a2:nsIn K mainGlobals "_law_step"=some (some (.ref f2))) (l2:K.lookup f2=some (FnO "_law_step" "_law_step" s_63 oc2 od2 kV2 dc2 pm2 an2 cd2 ct2 sl2)) (c2:codeIn K cd2 "_law_step"=true) (k2:keepIn K (.ref f2)=true)
  (a3:findIn K (.ref C_Exam) "__init__"=some (some (.ref f3))) (i3:isFn K (.ref f3)=true) (l3:K.lookup f3=some (FnO "__init__" "Exam.__init__" s_24 oc3 od3 kV3 dc3 pm3 an3 cd3 ct3 sl3)) (c3:codeIn K cd3 "Exam.__init__"=true) (k3:keepIn K (.ref f3)=true)
  (a4:findIn K (.ref C_Exam) "refuse_behind_dealing"=some (some (.ref f4))) (i4:isFn K (.ref f4)=true) (l4:K.lookup f4=some (FnO "refuse_behind_dealing" "Exam.refuse_behind_dealing" s_39 oc4 od4 kV4 dc4 pm4 an4 cd4 ct4 sl4)) (c4:codeIn K cd4 "Exam.refuse_behind_dealing"=true) (k4:keepIn K (.ref f4)=true)
  (a5:nsIn K mainGlobals "refuse_out_of_bounds"=some (some (.ref f5))) (l5:K.lookup f5=some (FnO "refuse_out_of_bounds" "refuse_out_of_bounds" s_21 oc5 od5 kV5 dc5 pm5 an5 cd5 ct5 sl5)) (c5:codeIn K cd5 "refuse_out_of_bounds"=true) (k5:keepIn K (.ref f5)=true)
  (a6:findIn K (.ref C_Exam) "set_step"=some (some (.ref f6))) (i6:isFn K (.ref f6)=true) (l6:K.lookup f6=some (FnO "set_step" "Exam.set_step" s_27 oc6 od6 kV6 dc6 pm6 an6 cd6 ct6 sl6)) (c6:codeIn K cd6 "Exam.set_step"=true) (k6:keepIn K (.ref f6)=true)
  (a7:nsIn K mainGlobals "refuse_unknown"=some (some (.ref f7))) (l7:K.lookup f7=some (FnO "refuse_unknown" "refuse_unknown" s_20 oc7 od7 kV7 dc7 pm7 an7 cd7 ct7 sl7)) (c7:codeIn K cd7 "refuse_unknown"=true) (k7:keepIn K (.ref f7)=true)
  (a8:nsIn K mainGlobals "refuse_full"=some (some (.ref f8))) (l8:K.lookup f8=some (FnO "refuse_full" "refuse_full" s_22 oc8 od8 kV8 dc8 pm8 an8 cd8 ct8 sl8)) (c8:codeIn K cd8 "refuse_full"=true) (k8:keepIn K (.ref f8)=true)
  (a9:findIn K (.ref C_Exam) "bring_paper"=some (some (.ref f9))) (i9:isFn K (.ref f9)=true) (l9:K.lookup f9=some (FnO "bring_paper" "Exam.bring_paper" s_25 oc9 od9 kV9 dc9 pm9 an9 cd9 ct9 sl9)) (c9:codeIn K cd9 "Exam.bring_paper"=true) (k9:keepIn K (.ref f9)=true)
  (a10:findIn K (.ref C_Exam) "bring_reader"=some (some (.ref f10))) (i10:isFn K (.ref f10)=true) (l10:K.lookup f10=some (FnO "bring_reader" "Exam.bring_reader" s_26 oc10 od10 kV10 dc10 pm10 an10 cd10 ct10 sl10)) (c10:codeIn K cd10 "Exam.bring_reader"=true) (k10:keepIn K (.ref f10)=true)
  (a11:nsIn K mainGlobals "_law_exam"=some (some (.ref f11))) (l11:K.lookup f11=some (FnO "_law_exam" "_law_exam" s_55 oc11 od11 kV11 dc11 pm11 an11 cd11 ct11 sl11)) (c11:codeIn K cd11 "_law_exam"=true) (k11:keepIn K (.ref f11)=true)
  (a12:nsIn K mainGlobals "_law_truth"=some (some (.ref f12))) (l12:K.lookup f12=some (FnO "_law_truth" "_law_truth" s_49 oc12 od12 kV12 dc12 pm12 an12 cd12 ct12 sl12)) (c12:codeIn K cd12 "_law_truth"=true) (k12:keepIn K (.ref f12)=true)
  (a13:nsIn K mainGlobals "pairs_of"=some (some (.ref f13))) (l13:K.lookup f13=some (FnO "pairs_of" "pairs_of" s_12 oc13 od13 kV13 dc13 pm13 an13 cd13 ct13 sl13)) (c13:codeIn K cd13 "pairs_of"=true) (k13:keepIn K (.ref f13)=true)
  (a14:nsIn K mainGlobals "may_read"=some (some (.ref f14))) (l14:K.lookup f14=some (FnO "may_read" "may_read" s_1 oc14 od14 kV14 dc14 pm14 an14 cd14 ct14 sl14)) (c14:codeIn K cd14 "may_read"=true) (k14:keepIn K (.ref f14)=true)
  (a15:nsIn K mainGlobals "readers_for"=some (some (.ref f15))) (l15:K.lookup f15=some (FnO "readers_for" "readers_for" s_2 oc15 od15 kV15 dc15 pm15 an15 cd15 ct15 sl15)) (c15:codeIn K cd15 "readers_for"=true) (k15:keepIn K (.ref f15)=true)
  (a16:nsIn K mainGlobals "times_in"=some (some (.ref f16))) (l16:K.lookup f16=some (FnO "times_in" "times_in" s_9 oc16 od16 kV16 dc16 pm16 an16 cd16 ct16 sl16)) (c16:codeIn K cd16 "times_in"=true) (k16:keepIn K (.ref f16)=true)
  (a17:nsIn K mainGlobals "left_after"=some (some (.ref f17))) (l17:K.lookup f17=some (FnO "left_after" "left_after" s_8 oc17 od17 kV17 dc17 pm17 an17 cd17 ct17 sl17)) (c17:codeIn K cd17 "left_after"=true) (k17:keepIn K (.ref f17)=true)
  (a18:nsIn K mainGlobals "keeps_to_limits"=some (some (.ref f18))) (l18:K.lookup f18=some (FnO "keeps_to_limits" "keeps_to_limits" s_7 oc18 od18 kV18 dc18 pm18 an18 cd18 ct18 sl18)) (c18:codeIn K cd18 "keeps_to_limits"=true) (k18:keepIn K (.ref f18)=true)
  (a19:findIn K (.ref C_Attempt) "__init__"=some (some (.ref f19))) (i19:isFn K (.ref f19)=true) (l19:K.lookup f19=some (FnO "__init__" "Attempt.__init__" s_Attempt___init__ oc19 od19 kV19 dc19 pm19 an19 cd19 ct19 sl19)) (c19:codeIn K cd19 "Attempt.__init__"=true) (k19:keepIn K (.ref f19)=true)
  (a20:findIn K (.ref C_Attempt) "free_reading"=some (some (.ref f20))) (i20:isFn K (.ref f20)=true) (l20:K.lookup f20=some (FnO "free_reading" "Attempt.free_reading" s_Attempt_free_reading oc20 od20 kV20 dc20 pm20 an20 cd20 ct20 sl20)) (c20:codeIn K cd20 "Attempt.free_reading"=true) (k20:keepIn K (.ref f20)=true)
  (a21:findIn K (.ref C_Attempt) "find_reader"=some (some (.ref f21))) (i21:isFn K (.ref f21)=true) (l21:K.lookup f21=some (FnO "find_reader" "Attempt.find_reader" s_Attempt_find_reader oc21 od21 kV21 dc21 pm21 an21 cd21 ct21 sl21)) (c21:codeIn K cd21 "Attempt.find_reader"=true) (k21:keepIn K (.ref f21)=true)
  (a22:nsIn K mainGlobals "readers_suffice"=some (some (.ref f22))) (l22:K.lookup f22=some (FnO "readers_suffice" "readers_suffice" s_3 oc22 od22 kV22 dc22 pm22 an22 cd22 ct22 sl22)) (c22:codeIn K cd22 "readers_suffice"=true) (k22:keepIn K (.ref f22)=true)
  (a23:nsIn K mainGlobals "with_limits"=some (some (.ref f23))) (l23:K.lookup f23=some (FnO "with_limits" "with_limits" s_14 oc23 od23 kV23 dc23 pm23 an23 cd23 ct23 sl23)) (c23:codeIn K cd23 "with_limits"=true) (k23:keepIn K (.ref f23)=true)
  (a24:nsIn K mainGlobals "can_go_on"=some (some (.ref f24))) (l24:K.lookup f24=some (FnO "can_go_on" "can_go_on" s_13 oc24 od24 kV24 dc24 pm24 an24 cd24 ct24 sl24)) (c24:codeIn K cd24 "can_go_on"=true) (k24:keepIn K (.ref f24)=true)
  (a25:nsIn K mainGlobals "first_row_behind"=some (some (.ref f25))) (l25:K.lookup f25=some (FnO "first_row_behind" "first_row_behind" s_11 oc25 od25 kV25 dc25 pm25 an25 cd25 ct25 sl25)) (c25:codeIn K cd25 "first_row_behind"=true) (k25:keepIn K (.ref f25)=true)
  (a26:nsIn K mainGlobals "first_dealing"=some (some (.ref f26))) (l26:K.lookup f26=some (FnO "first_dealing" "first_dealing" s_10 oc26 od26 kV26 dc26 pm26 an26 cd26 ct26 sl26)) (c26:codeIn K cd26 "first_dealing"=true) (k26:keepIn K (.ref f26)=true)
  (a27:findIn K (.ref C_Exam) "deal"=some (some (.ref f27))) (i27:isFn K (.ref f27)=true) (l27:K.lookup f27=some (FnO "deal" "Exam.deal" s_28 oc27 od27 kV27 dc27 pm27 an27 cd27 ct27 sl27)) (c27:codeIn K cd27 "Exam.deal"=true) (k27:keepIn K (.ref f27)=true)
  (a28:findIn K (.ref C_Exam) "dealing"=some (some (.ref f28))) (i28:isFn K (.ref f28)=true) (l28:K.lookup f28=some (FnO "dealing" "Exam.dealing" s_34 oc28 od28 kV28 dc28 pm28 an28 cd28 ct28 sl28)) (c28:codeIn K cd28 "Exam.dealing"=true) (k28:keepIn K (.ref f28)=true)
  (a29:nsIn K mainGlobals "_law_whole"=some (some (.ref f29))) (l29:K.lookup f29=some (FnO "_law_whole" "_law_whole" s_48 oc29 od29 kV29 dc29 pm29 an29 cd29 ct29 sl29)) (c29:codeIn K cd29 "_law_whole"=true) (k29:keepIn K (.ref f29)=true)
  (a30:nsIn K mainGlobals "_law_row"=some (some (.ref f30))) (l30:K.lookup f30=some (FnO "_law_row" "_law_row" s_50 oc30 od30 kV30 dc30 pm30 an30 cd30 ct30 sl30)) (c30:codeIn K cd30 "_law_row"=true) (k30:keepIn K (.ref f30)=true)
  (a31:nsIn K mainGlobals "_law_rows"=some (some (.ref f31))) (l31:K.lookup f31=some (FnO "_law_rows" "_law_rows" s_51 oc31 od31 kV31 dc31 pm31 an31 cd31 ct31 sl31)) (c31:codeIn K cd31 "_law_rows"=true) (k31:keepIn K (.ref f31)=true)
  (a32:nsIn K mainGlobals "_law_pair"=some (some (.ref f32))) (l32:K.lookup f32=some (FnO "_law_pair" "_law_pair" s_53 oc32 od32 kV32 dc32 pm32 an32 cd32 ct32 sl32)) (c32:codeIn K cd32 "_law_pair"=true) (k32:keepIn K (.ref f32)=true)
  (a33:nsIn K mainGlobals "_law_right"=some (some (.ref f33))) (l33:K.lookup f33=some (FnO "_law_right" "_law_right" s_54 oc33 od33 kV33 dc33 pm33 an33 cd33 ct33 sl33)) (c33:codeIn K cd33 "_law_right"=true) (k33:keepIn K (.ref f33)=true)
  (a34:nsIn K mainGlobals "_law_points"=some (some (.ref f34))) (l34:K.lookup f34=some (FnO "_law_points" "_law_points" s_62 oc34 od34 kV34 dc34 pm34 an34 cd34 ct34 sl34)) (c34:codeIn K cd34 "_law_points"=true) (k34:keepIn K (.ref f34)=true)
  (a35:nsIn K mainGlobals "_law_table"=some (some (.ref f35))) (l35:K.lookup f35=some (FnO "_law_table" "_law_table" s_65 oc35 od35 kV35 dc35 pm35 an35 cd35 ct35 sl35)) (c35:codeIn K cd35 "_law_table"=true) (k35:keepIn K (.ref f35)=true)
  (a36:nsIn K mainGlobals "_law_given"=some (some (.ref f36))) (l36:K.lookup f36=some (FnO "_law_given" "_law_given" s_56 oc36 od36 kV36 dc36 pm36 an36 cd36 ct36 sl36)) (c36:codeIn K cd36 "_law_given"=true) (k36:keepIn K (.ref f36)=true)
  (a37:nsIn K mainGlobals "_law_waiting"=some (some (.ref f37))) (l37:K.lookup f37=some (FnO "_law_waiting" "_law_waiting" s_57 oc37 od37 kV37 dc37 pm37 an37 cd37 ct37 sl37)) (c37:codeIn K cd37 "_law_waiting"=true) (k37:keepIn K (.ref f37)=true)
  (a38:nsIn K mainGlobals "_law_late"=some (some (.ref f38))) (l38:K.lookup f38=some (FnO "_law_late" "_law_late" s_66 oc38 od38 kV38 dc38 pm38 an38 cd38 ct38 sl38)) (c38:codeIn K cd38 "_law_late"=true) (k38:keepIn K (.ref f38)=true)
  (a39:findIn K (.ref C_Exam) "refuse_ahead_of_dealing"=some (some (.ref f39))) (i39:isFn K (.ref f39)=true) (l39:K.lookup f39=some (FnO "refuse_ahead_of_dealing" "Exam.refuse_ahead_of_dealing" s_40 oc39 od39 kV39 dc39 pm39 an39 cd39 ct39 sl39)) (c39:codeIn K cd39 "Exam.refuse_ahead_of_dealing"=true) (k39:keepIn K (.ref f39)=true)
  (a40:findIn K (.ref C_Exam) "due_readers"=some (some (.ref f40))) (i40:isFn K (.ref f40)=true) (l40:K.lookup f40=some (FnO "due_readers" "Exam.due_readers" s_42 oc40 od40 kV40 dc40 pm40 an40 cd40 ct40 sl40)) (c40:codeIn K cd40 "Exam.due_readers"=true) (k40:keepIn K (.ref f40)=true)
  (a41:findIn K (.ref C_Exam) "refuse_not_due"=some (some (.ref f41))) (i41:isFn K (.ref f41)=true) (l41:K.lookup f41=some (FnO "refuse_not_due" "Exam.refuse_not_due" s_41 oc41 od41 kV41 dc41 pm41 an41 cd41 ct41 sl41)) (c41:codeIn K cd41 "Exam.refuse_not_due"=true) (k41:keepIn K (.ref f41)=true)
  (a42:findIn K (.ref C_Exam) "points_for"=some (some (.ref f42))) (i42:isFn K (.ref f42)=true) (l42:K.lookup f42=some (FnO "points_for" "Exam.points_for" s_43 oc42 od42 kV42 dc42 pm42 an42 cd42 ct42 sl42)) (c42:codeIn K cd42 "Exam.points_for"=true) (k42:keepIn K (.ref f42)=true)
  (a43:nsIn K mainGlobals "agree"=some (some (.ref f43))) (l43:K.lookup f43=some (FnO "agree" "agree" s_17 oc43 od43 kV43 dc43 pm43 an43 cd43 ct43 sl43)) (c43:codeIn K cd43 "agree"=true) (k43:keepIn K (.ref f43)=true)
  (a44:findIn K (.ref C_Exam) "needs_third"=some (some (.ref f44))) (i44:isFn K (.ref f44)=true) (l44:K.lookup f44=some (FnO "needs_third" "Exam.needs_third" s_46 oc44 od44 kV44 dc44 pm44 an44 cd44 ct44 sl44)) (c44:codeIn K cd44 "Exam.needs_third"=true) (k44:keepIn K (.ref f44)=true)
  (a45:nsIn K mainGlobals "third_for"=some (some (.ref f45))) (l45:K.lookup f45=some (FnO "third_for" "third_for" s_23 oc45 od45 kV45 dc45 pm45 an45 cd45 ct45 sl45)) (c45:codeIn K cd45 "third_for"=true) (k45:keepIn K (.ref f45)=true)
  (a46:findIn K (.ref C_Exam) "left"=some (some (.ref f46))) (i46:isFn K (.ref f46)=true) (l46:K.lookup f46=some (FnO "left" "Exam.left" s_38 oc46 od46 kV46 dc46 pm46 an46 cd46 ct46 sl46)) (c46:codeIn K cd46 "Exam.left"=true) (k46:keepIn K (.ref f46)=true)
  (a47:findIn K (.ref C_Exam) "name_third"=some (some (.ref f47))) (i47:isFn K (.ref f47)=true) (l47:K.lookup f47=some (FnO "name_third" "Exam.name_third" s_45 oc47 od47 kV47 dc47 pm47 an47 cd47 ct47 sl47)) (c47:codeIn K cd47 "Exam.name_third"=true) (k47:keepIn K (.ref f47)=true)
  (a48:findIn K (.ref C_Exam) "enter"=some (some (.ref f48))) (i48:isFn K (.ref f48)=true) (l48:K.lookup f48=some (FnO "enter" "Exam.enter" s_29 oc48 od48 kV48 dc48 pm48 an48 cd48 ct48 sl48)) (c48:codeIn K cd48 "Exam.enter"=true) (k48:keepIn K (.ref f48)=true)
  (a49:nsIn K mainGlobals "_law_spare"=some (some (.ref f49))) (l49:K.lookup f49=some (FnO "_law_spare" "_law_spare" s_59 oc49 od49 kV49 dc49 pm49 an49 cd49 ct49 sl49)) (c49:codeIn K cd49 "_law_spare"=true) (k49:keepIn K (.ref f49)=true)
  (a50:nsIn K mainGlobals "_law_third"=some (some (.ref f50))) (l50:K.lookup f50=some (FnO "_law_third" "_law_third" s_60 oc50 od50 kV50 dc50 pm50 an50 cd50 ct50 sl50)) (c50:codeIn K cd50 "_law_third"=true) (k50:keepIn K (.ref f50)=true)
  (a51:nsIn K mainGlobals "_law_then"=some (some (.ref f51))) (l51:K.lookup f51=some (FnO "_law_then" "_law_then" s_61 oc51 od51 kV51 dc51 pm51 an51 cd51 ct51 sl51)) (c51:codeIn K cd51 "_law_then"=true) (k51:keepIn K (.ref f51)=true)
  (a52:nsIn K mainGlobals "_law_enters"=some (some (.ref f52))) (l52:K.lookup f52=some (FnO "_law_enters" "_law_enters" s_67 oc52 od52 kV52 dc52 pm52 an52 cd52 ct52 sl52)) (c52:codeIn K cd52 "_law_enters"=true) (k52:keepIn K (.ref f52)=true)
  (a53:nsIn K mainGlobals "_law_run"=some (some (.ref f53))) (l53:K.lookup f53=some (FnO "_law_run" "_law_run" s_68 oc53 od53 kV53 dc53 pm53 an53 cd53 ct53 sl53)) (c53:codeIn K cd53 "_law_run"=true) (k53:keepIn K (.ref f53)=true)
  (a54:findIn K (.ref C_Exam) "due"=some (some (.ref f54))) (i54:isFn K (.ref f54)=true) (l54:K.lookup f54=some (FnO "due" "Exam.due" s_36 oc54 od54 kV54 dc54 pm54 an54 cd54 ct54 sl54)) (c54:codeIn K cd54 "Exam.due"=true) (k54:keepIn K (.ref f54)=true)
  (a55:nsIn K mainGlobals "_law_mark"=some (some (.ref f55))) (l55:K.lookup f55=some (FnO "_law_mark" "_law_mark" s_58 oc55 od55 kV55 dc55 pm55 an55 cd55 ct55 sl55)) (c55:codeIn K cd55 "_law_mark"=true) (k55:keepIn K (.ref f55)=true)
  (a56:nsIn K mainGlobals "_law_all_marked"=some (some (.ref f56))) (l56:K.lookup f56=some (FnO "_law_all_marked" "_law_all_marked" s_64 oc56 od56 kV56 dc56 pm56 an56 cd56 ct56 sl56)) (c56:codeIn K cd56 "_law_all_marked"=true) (k56:keepIn K (.ref f56)=true)
  (a57:nsIn K mainGlobals "greatest_divisor"=some (some (.ref f57))) (l57:K.lookup f57=some (FnO "greatest_divisor" "greatest_divisor" s_16 oc57 od57 kV57 dc57 pm57 an57 cd57 ct57 sl57)) (c57:codeIn K cd57 "greatest_divisor"=true) (k57:keepIn K (.ref f57)=true)
  (a58:nsIn K mainGlobals "lowest"=some (some (.ref f58))) (l58:K.lookup f58=some (FnO "lowest" "lowest" s_15 oc58 od58 kV58 dc58 pm58 an58 cd58 ct58 sl58)) (c58:codeIn K cd58 "lowest"=true) (k58:keepIn K (.ref f58)=true)
  (a59:nsIn K mainGlobals "middle_of"=some (some (.ref f59))) (l59:K.lookup f59=some (FnO "middle_of" "middle_of" s_19 oc59 od59 kV59 dc59 pm59 an59 cd59 ct59 sl59)) (c59:codeIn K cd59 "middle_of"=true) (k59:keepIn K (.ref f59)=true)
  (a60:nsIn K mainGlobals "mark_of"=some (some (.ref f60))) (l60:K.lookup f60=some (FnO "mark_of" "mark_of" s_18 oc60 od60 kV60 dc60 pm60 an60 cd60 ct60 sl60)) (c60:codeIn K cd60 "mark_of"=true) (k60:keepIn K (.ref f60)=true)
  (a61:findIn K (.ref C_Exam) "mark_for"=some (some (.ref f61))) (i61:isFn K (.ref f61)=true) (l61:K.lookup f61=some (FnO "mark_for" "Exam.mark_for" s_44 oc61 od61 kV61 dc61 pm61 an61 cd61 ct61 sl61)) (c61:codeIn K cd61 "Exam.mark_for"=true) (k61:keepIn K (.ref f61)=true)
  (a62:findIn K (.ref C_Exam) "marks"=some (some (.ref f62))) (i62:isFn K (.ref f62)=true) (l62:K.lookup f62=some (FnO "marks" "Exam.marks" s_37 oc62 od62 kV62 dc62 pm62 an62 cd62 ct62 sl62)) (c62:codeIn K cd62 "Exam.marks"=true) (k62:keepIn K (.ref f62)=true)
  (a63:nsIn K mainGlobals "law"=some (some (.ref f63))) (l63:K.lookup f63=some (FnO "law" "law" s_69 oc63 od63 kV63 dc63 pm63 an63 cd63 ct63 sl63)) (c63:codeIn K cd63 "law"=true) (k63:keepIn K (.ref f63)=true)
  (z_abs:nsIn K mainGlobals "abs"=some none)
  (z_all:nsIn K mainGlobals "all"=some none)
  (z_bool:nsIn K mainGlobals "bool"=some none)
  (z_enumerate:nsIn K mainGlobals "enumerate"=some none)
  (z_int:nsIn K mainGlobals "int"=some none)
  (z_isinstance:nsIn K mainGlobals "isinstance"=some none)
  (z_len:nsIn K mainGlobals "len"=some none)
  (z_list:nsIn K mainGlobals "list"=some none)
  (z_max:nsIn K mainGlobals "max"=some none)
  (z_min:nsIn K mainGlobals "min"=some none)
  (z_range:nsIn K mainGlobals "range"=some none)
  (z_sorted:nsIn K mainGlobals "sorted"=some none)
  (z_sum:nsIn K mainGlobals "sum"=some none)
  (z_zip:nsIn K mainGlobals "zip"=some none)
  (pg_Attempt:plainGet K C_Attempt Str.empty=true) (hd_Attempt:hasDictIn K C_Attempt=true) (po_Attempt:plainOver K C_Attempt=true) (sa_Attempt:findIn K (.ref C_Attempt) "__setattr__"=some (some (.builtin "object.__setattr__"))) (mk_Attempt:makesIn K C_Attempt=true) (kc_Attempt:keepIn K (.ref C_Attempt)=true)
  (n_Attempt_allowed:findIn K (.ref C_Attempt) "allowed"=some none)
  (n_Attempt_given:findIn K (.ref C_Attempt) "given"=some none)
  (n_Attempt_spare:findIn K (.ref C_Attempt) "spare"=some none)
  (pg_Exam:plainGet K C_Exam Str.empty=true) (hd_Exam:hasDictIn K C_Exam=true) (po_Exam:plainOver K C_Exam=true) (sa_Exam:findIn K (.ref C_Exam) "__setattr__"=some (some (.builtin "object.__setattr__"))) (mk_Exam:makesIn K C_Exam=true) (kc_Exam:keepIn K (.ref C_Exam)=true)
  (n_Exam_paper_houses:findIn K (.ref C_Exam) "paper_houses"=some none)
  (n_Exam_reader_rows:findIn K (.ref C_Exam) "reader_rows"=some none)
  (n_Exam_widest_step:findIn K (.ref C_Exam) "widest_step"=some none)
  (n_Exam_is_dealt:findIn K (.ref C_Exam) "is_dealt"=some none)
  (n_Exam_named_readers:findIn K (.ref C_Exam) "named_readers"=some none)
  (n_Exam_entered_points:findIn K (.ref C_Exam) "entered_points"=some none)
  (v_READERS_EACH:nsIn K mainGlobals "READERS_EACH"=some (some (.int 2 tk_READERS_EACH)))
  (v_MOST_HOUSES:nsIn K mainGlobals "MOST_HOUSES"=some (some (.int 6 tk_MOST_HOUSES)))
  (v_MOST_PAPERS:nsIn K mainGlobals "MOST_PAPERS"=some (some (.int 10 tk_MOST_PAPERS)))
  (v_MOST_LIMIT:nsIn K mainGlobals "MOST_LIMIT"=some (some (.int 30 tk_MOST_LIMIT)))
  (v_MOST_READERS:nsIn K mainGlobals "MOST_READERS"=some (some (.int 8 tk_MOST_READERS)))
  (v_MOST_STEP:nsIn K mainGlobals "MOST_STEP"=some (some (.int 100 tk_MOST_STEP)))
  (v_MOST_POINTS:nsIn K mainGlobals "MOST_POINTS"=some (some (.int 100 tk_MOST_POINTS)))
  : ∃ fd:FuncData,(∀ (s:Shared) (v:Value),BindsTo s fd ⟨[v],[]⟩ [("_law_script",v)])∧∀ base:Heap,K.In base→base.Ns mainGlobals mg→FnOk l.prog w K mg base CX0 23 fa fd ["_law_script"] (zg6 K):=by
 have e:=hfa.symm.trans (mg_of X G a63)
 cases e
 have F0:=zaA (st:=s_47) l0 c0 k0;have F1:=zaA (st:=s_52) l1 c1 k1;have F2:=zaA (st:=s_63) l2 c2 k2;have F3:=zaA (st:=s_24) l3 c3 k3;have F4:=zaA (st:=s_39) l4 c4 k4;have F5:=zaA (st:=s_21) l5 c5 k5;have F6:=zaA (st:=s_27) l6 c6 k6;have F7:=zaA (st:=s_20) l7 c7 k7;have F8:=zaA (st:=s_22) l8 c8 k8;have F9:=zaA (st:=s_25) l9 c9 k9;have F10:=zaA (st:=s_26) l10 c10 k10;have F11:=zaA (st:=s_55) l11 c11 k11;have F12:=zaA (st:=s_49) l12 c12 k12;have F13:=zaA (st:=s_12) l13 c13 k13;have F14:=zaA (st:=s_1) l14 c14 k14;have F15:=zaA (st:=s_2) l15 c15 k15;have F16:=zaA (st:=s_9) l16 c16 k16;have F17:=zaA (st:=s_8) l17 c17 k17;have F18:=zaA (st:=s_7) l18 c18 k18;have F19:=zaA (st:=s_Attempt___init__) l19 c19 k19;have F20:=zaA (st:=s_Attempt_free_reading) l20 c20 k20;have F21:=zaA (st:=s_Attempt_find_reader) l21 c21 k21;have F22:=zaA (st:=s_3) l22 c22 k22;have F23:=zaA (st:=s_14) l23 c23 k23;have F24:=zaA (st:=s_13) l24 c24 k24;have F25:=zaA (st:=s_11) l25 c25 k25;have F26:=zaA (st:=s_10) l26 c26 k26;have F27:=zaA (st:=s_28) l27 c27 k27;have F28:=zaA (st:=s_34) l28 c28 k28;have F29:=zaA (st:=s_48) l29 c29 k29;have F30:=zaA (st:=s_50) l30 c30 k30;have F31:=zaA (st:=s_51) l31 c31 k31;have F32:=zaA (st:=s_53) l32 c32 k32;have F33:=zaA (st:=s_54) l33 c33 k33;have F34:=zaA (st:=s_62) l34 c34 k34;have F35:=zaA (st:=s_65) l35 c35 k35;have F36:=zaA (st:=s_56) l36 c36 k36;have F37:=zaA (st:=s_57) l37 c37 k37;have F38:=zaA (st:=s_66) l38 c38 k38;have F39:=zaA (st:=s_40) l39 c39 k39;have F40:=zaA (st:=s_42) l40 c40 k40;have F41:=zaA (st:=s_41) l41 c41 k41;have F42:=zaA (st:=s_43) l42 c42 k42;have F43:=zaA (st:=s_17) l43 c43 k43;have F44:=zaA (st:=s_46) l44 c44 k44;have F45:=zaA (st:=s_23) l45 c45 k45;have F46:=zaA (st:=s_38) l46 c46 k46;have F47:=zaA (st:=s_45) l47 c47 k47;have F48:=zaA (st:=s_29) l48 c48 k48;have F49:=zaA (st:=s_59) l49 c49 k49;have F50:=zaA (st:=s_60) l50 c50 k50;have F51:=zaA (st:=s_61) l51 c51 k51;have F52:=zaA (st:=s_67) l52 c52 k52;have F53:=zaA (st:=s_68) l53 c53 k53;have F54:=zaA (st:=s_36) l54 c54 k54;have F55:=zaA (st:=s_58) l55 c55 k55;have F56:=zaA (st:=s_64) l56 c56 k56;have F57:=zaA (st:=s_16) l57 c57 k57;have F58:=zaA (st:=s_15) l58 c58 k58;have F59:=zaA (st:=s_19) l59 c59 k59;have F60:=zaA (st:=s_18) l60 c60 k60;have F61:=zaA (st:=s_44) l61 c61 k61;have F62:=zaA (st:=s_37) l62 c62 k62;have F63:=zaA (st:=s_69) l63 c63 k63;have T:Txt K mg ⟨_,_,_,_,_,_,_,_,_,_,_,_,_,_,_,_,_,_,_,_,_,_,_,_,_,_,_,_,_,_,_,_,_,_,_,_,_,_,_,_,_,_,_,_,_,_,_,_,_,_,_,_,_,_,_,_,_,_,_,_,_,_,_,_,_,_,_,_,_,_,_,_,_,_,_,_,_,_,_,_,_,_,_,_,_,_,_,_,_,_,_,_,_,_,_,_,_,_,_,_,_,_,_,_,_,_,_,_,_,_,_,_,_,_,_,_,_,_,_,_,_,_,_,_,_,_,_,_,_,_,_,_,_,_,_,_,_⟩:=⟨F0,F0.binds (ps:=["_law_script","_law_k"]) (fun _ _ _ _ _ _ us hl=>match us,hl with | [_,_],_=>rfl),mg_of X G a0,F1,F1.binds (ps:=["_law_script","_law_first","_law_least"]) (fun _ _ _ _ _ _ us hl=>match us,hl with | [_,_,_],_=>rfl),mg_of X G a1,F2,F2.binds (ps:=["_law_cell"]) (fun _ _ _ _ _ _ us hl=>match us,hl with | [_],_=>rfl),mg_of X G a2,F3,F3.binds (ps:=["self"]) (fun _ _ _ _ _ _ us hl=>match us,hl with | [_],_=>rfl),⟨mk_Exam,a3,i3,kc_Exam⟩,F4,F4.binds (ps:=["self"]) (fun _ _ _ _ _ _ us hl=>match us,hl with | [_],_=>rfl),⟨a4,i4,k4⟩,F5,F5.binds (ps:=["number","most"]) (fun _ _ _ _ _ _ us hl=>match us,hl with | [_,_],_=>rfl),mg_of X G a5,F6,F6.binds (ps:=["self","step"]) (fun _ _ _ _ _ _ us hl=>match us,hl with | [_,_],_=>rfl),⟨a6,i6,k6⟩,F7,F7.binds (ps:=["number","least","most"]) (fun _ _ _ _ _ _ us hl=>match us,hl with | [_,_,_],_=>rfl),mg_of X G a7,F8,F8.binds (ps:=["many","most"]) (fun _ _ _ _ _ _ us hl=>match us,hl with | [_,_],_=>rfl),mg_of X G a8,F9,F9.binds (ps:=["self","house"]) (fun _ _ _ _ _ _ us hl=>match us,hl with | [_,_],_=>rfl),⟨a9,i9,k9⟩,F10,F10.binds (ps:=["self","house","limit"]) (fun _ _ _ _ _ _ us hl=>match us,hl with | [_,_,_],_=>rfl),⟨a10,i10,k10⟩,F11,F11.binds (ps:=["_law_homes","_law_staff","_law_step_here","_law_turn"]) (fun _ _ _ _ _ _ us hl=>match us,hl with | [_,_,_,_],_=>rfl),mg_of X G a11,F12,F12.binds (ps:=["_law_found","_law_due"]) (fun _ _ _ _ _ _ us hl=>match us,hl with | [_,_],_=>rfl),mg_of X G a12,F13,F13.binds (ps:=["numbers"]) (fun _ _ _ _ _ _ us hl=>match us,hl with | [_],_=>rfl),mg_of X G a13,F14,F14.binds (ps:=["papers","readers","paper","reader"]) (fun _ _ _ _ _ _ us hl=>match us,hl with | [_,_,_,_],_=>rfl),mg_of X G a14,F15,F15.binds (ps:=["papers","readers","paper"]) (fun _ _ _ _ _ _ us hl=>match us,hl with | [_,_,_],_=>rfl),mg_of X G a15,F16,F16.binds (ps:=["rows","reader"]) (fun _ _ _ _ _ _ us hl=>match us,hl with | [_,_],_=>rfl),mg_of X G a16,F17,F17.binds (ps:=["readers","rows"]) (fun _ _ _ _ _ _ us hl=>match us,hl with | [_,_],_=>rfl),mg_of X G a17,F18,F18.binds (ps:=["readers","rows"]) (fun _ _ _ _ _ _ us hl=>match us,hl with | [_,_],_=>rfl),mg_of X G a18,F19,F19.binds (ps:=["self","papers","readers"]) (fun _ _ _ _ _ _ us hl=>match us,hl with | [_,_,_],_=>rfl),⟨mk_Attempt,a19,i19,kc_Attempt⟩,F20,F20.binds (ps:=["self","reader","asked"]) (fun _ _ _ _ _ _ us hl=>match us,hl with | [_,_,_],_=>rfl),⟨a20,i20,k20⟩,F21,F21.binds (ps:=["self","paper","asked"]) (fun _ _ _ _ _ _ us hl=>match us,hl with | [_,_,_],_=>rfl),⟨a21,i21,k21⟩,F22,F22.binds (ps:=["papers","readers"]) (fun _ _ _ _ _ _ us hl=>match us,hl with | [_,_],_=>rfl),mg_of X G a22,F23,F23.binds (ps:=["readers","limits"]) (fun _ _ _ _ _ _ us hl=>match us,hl with | [_,_],_=>rfl),mg_of X G a23,F24,F24.binds (ps:=["papers","readers","rows"]) (fun _ _ _ _ _ _ us hl=>match us,hl with | [_,_,_],_=>rfl),mg_of X G a24,F25,F25.binds (ps:=["papers","readers","rows"]) (fun _ _ _ _ _ _ us hl=>match us,hl with | [_,_,_],_=>rfl),mg_of X G a25,F26,F26.binds (ps:=["papers","readers"]) (fun _ _ _ _ _ _ us hl=>match us,hl with | [_,_],_=>rfl),mg_of X G a26,F27,F27.binds (ps:=["self"]) (fun _ _ _ _ _ _ us hl=>match us,hl with | [_],_=>rfl),⟨a27,i27,k27⟩,F28,F28.binds (ps:=["self"]) (fun _ _ _ _ _ _ us hl=>match us,hl with | [_],_=>rfl),⟨a28,i28,k28⟩,F29,F29.binds (ps:=["_law_found"]) (fun _ _ _ _ _ _ us hl=>match us,hl with | [_],_=>rfl),mg_of X G a29,F30,F30.binds (ps:=["_law_found","_law_due"]) (fun _ _ _ _ _ _ us hl=>match us,hl with | [_,_],_=>rfl),mg_of X G a30,F31,F31.binds (ps:=["_law_found","_law_due"]) (fun _ _ _ _ _ _ us hl=>match us,hl with | [_,_],_=>rfl),mg_of X G a31,F32,F32.binds (ps:=["_law_staff","_law_house","_law_row_here"]) (fun _ _ _ _ _ _ us hl=>match us,hl with | [_,_,_],_=>rfl),mg_of X G a32,F33,F33.binds (ps:=["_law_homes","_law_staff","_law_rows_here"]) (fun _ _ _ _ _ _ us hl=>match us,hl with | [_,_,_],_=>rfl),mg_of X G a33,F34,F34.binds (ps:=["_law_cell","_law_step_here","_law_given_here"]) (fun _ _ _ _ _ _ us hl=>match us,hl with | [_,_,_],_=>rfl),mg_of X G a34,F35,F35.binds (ps:=["_law_script","_law_step_here","_law_many"]) (fun _ _ _ _ _ _ us hl=>match us,hl with | [_,_,_],_=>rfl),mg_of X G a35,F36,F36.binds (ps:=["_law_names","_law_entries","_law_paper"]) (fun _ _ _ _ _ _ us hl=>match us,hl with | [_,_,_],_=>rfl),mg_of X G a36,F37,F37.binds (ps:=["_law_names","_law_entries"]) (fun _ _ _ _ _ _ us hl=>match us,hl with | [_,_],_=>rfl),mg_of X G a37,F38,F38.binds (ps:=["_law_step_here","_law_table_here","_law_entries","_law_one"]) (fun _ _ _ _ _ _ us hl=>match us,hl with | [_,_,_,_],_=>rfl),mg_of X G a38,F39,F39.binds (ps:=["self"]) (fun _ _ _ _ _ _ us hl=>match us,hl with | [_],_=>rfl),⟨a39,i39,k39⟩,F40,F40.binds (ps:=["self","paper"]) (fun _ _ _ _ _ _ us hl=>match us,hl with | [_,_],_=>rfl),⟨a40,i40,k40⟩,F41,F41.binds (ps:=["self","paper","reader"]) (fun _ _ _ _ _ _ us hl=>match us,hl with | [_,_,_],_=>rfl),⟨a41,i41,k41⟩,F42,F42.binds (ps:=["self","paper"]) (fun _ _ _ _ _ _ us hl=>match us,hl with | [_,_],_=>rfl),⟨a42,i42,k42⟩,F43,F43.binds (ps:=["one","other","step"]) (fun _ _ _ _ _ _ us hl=>match us,hl with | [_,_,_],_=>rfl),mg_of X G a43,F44,F44.binds (ps:=["self","paper"]) (fun _ _ _ _ _ _ us hl=>match us,hl with | [_,_],_=>rfl),⟨a44,i44,k44⟩,F45,F45.binds (ps:=["papers","readers","left","paper","row"]) (fun _ _ _ _ _ _ us hl=>match us,hl with | [_,_,_,_,_],_=>rfl),mg_of X G a45,F46,F46.binds (ps:=["self"]) (fun _ _ _ _ _ _ us hl=>match us,hl with | [_],_=>rfl),⟨a46,i46,k46⟩,F47,F47.binds (ps:=["self","paper"]) (fun _ _ _ _ _ _ us hl=>match us,hl with | [_,_],_=>rfl),⟨a47,i47,k47⟩,F48,F48.binds (ps:=["self","paper","reader","points"]) (fun _ _ _ _ _ _ us hl=>match us,hl with | [_,_,_,_],_=>rfl),⟨a48,i48,k48⟩,F49,F49.binds (ps:=["_law_staff","_law_names"]) (fun _ _ _ _ _ _ us hl=>match us,hl with | [_,_],_=>rfl),mg_of X G a49,F50,F50.binds (ps:=["_law_homes","_law_staff","_law_names","_law_paper"]) (fun _ _ _ _ _ _ us hl=>match us,hl with | [_,_,_,_],_=>rfl),mg_of X G a50,F51,F51.binds (ps:=["_law_homes","_law_staff","_law_step_here","_law_names","_law_entries","_law_one"]) (fun _ _ _ _ _ _ us hl=>match us,hl with | [_,_,_,_,_,_],_=>rfl),mg_of X G a51,F52,F52.binds (ps:=["_law_exam_here","_law_made","_law_step_here","_law_names","_law_table_here","_law_entries","_law_one"]) (fun _ _ _ _ _ _ us hl=>match us,hl with | [_,_,_,_,_,_,_],_=>rfl),mg_of X G a52,F53,F53.binds (ps:=["_law_exam_here","_law_made","_law_step_here","_law_names","_law_table_here","_law_order","_law_cells"]) (fun _ _ _ _ _ _ us hl=>match us,hl with | [_,_,_,_,_,_,_],_=>rfl),mg_of X G a53,F54,F54.binds (ps:=["self"]) (fun _ _ _ _ _ _ us hl=>match us,hl with | [_],_=>rfl),⟨a54,i54,k54⟩,F55,F55.binds (ps:=["_law_given_here","_law_step_here"]) (fun _ _ _ _ _ _ us hl=>match us,hl with | [_,_],_=>rfl),mg_of X G a55,F56,F56.binds (ps:=["_law_found","_law_names","_law_entries","_law_step_here"]) (fun _ _ _ _ _ _ us hl=>match us,hl with | [_,_,_,_],_=>rfl),mg_of X G a56,F57,F57.binds (ps:=["one","other"]) (fun _ _ _ _ _ _ us hl=>match us,hl with | [_,_],_=>rfl),mg_of X G a57,F58,F58.binds (ps:=["top","bottom"]) (fun _ _ _ _ _ _ us hl=>match us,hl with | [_,_],_=>rfl),mg_of X G a58,F59,F59.binds (ps:=["points"]) (fun _ _ _ _ _ _ us hl=>match us,hl with | [_],_=>rfl),mg_of X G a59,F60,F60.binds (ps:=["points","step"]) (fun _ _ _ _ _ _ us hl=>match us,hl with | [_,_],_=>rfl),mg_of X G a60,F61,F61.binds (ps:=["self","paper"]) (fun _ _ _ _ _ _ us hl=>match us,hl with | [_,_],_=>rfl),⟨a61,i61,k61⟩,F62,F62.binds (ps:=["self"]) (fun _ _ _ _ _ _ us hl=>match us,hl with | [_],_=>rfl),⟨a62,i62,k62⟩,F63,F63.binds (ps:=["_law_script"]) (fun _ _ _ _ _ _ us hl=>match us,hl with | [_],_=>rfl),mg_of X G a63,⟨pg_Attempt,hd_Attempt,po_Attempt,sa_Attempt⟩,mg_of X G aC_Attempt,n_Attempt_allowed,n_Attempt_given,n_Attempt_spare,⟨pg_Exam,hd_Exam,po_Exam,sa_Exam⟩,mg_of X G aC_Exam,n_Exam_paper_houses,n_Exam_reader_rows,n_Exam_widest_step,n_Exam_is_dealt,n_Exam_named_readers,n_Exam_entered_points,mg_of X G v_READERS_EACH,⟨_,rfl⟩,mg_of X G v_MOST_HOUSES,⟨_,rfl⟩,mg_of X G v_MOST_PAPERS,⟨_,rfl⟩,mg_of X G v_MOST_LIMIT,⟨_,rfl⟩,mg_of X G v_MOST_READERS,⟨_,rfl⟩,mg_of X G v_MOST_STEP,⟨_,rfl⟩,mg_of X G v_MOST_POINTS,⟨_,rfl⟩,mg_none_of X G z_abs,mg_none_of X G z_all,mg_none_of X G z_bool,mg_none_of X G z_enumerate,mg_none_of X G z_int,mg_none_of X G z_isinstance,mg_none_of X G z_len,mg_none_of X G z_list,mg_none_of X G z_max,mg_none_of X G z_min,mg_none_of X G z_range,mg_none_of X G z_sorted,mg_none_of X G z_sum,mg_none_of X G z_zip⟩;exact ⟨_,fun s v=>.of_eq rfl,fun base _ _=>zn2 T⟩
theorem walk {l:PySem.W.OpenLaw} {q:Program} {loose:List Str} {XP:(Str→Option Value)→Heap→Prop} {YP:World→Heap→Prop} {d:DefRec} {K:Params→PySem.W.Frag} (hn:l.most=some 63) (hdf:d.params.defaults=[])
  (hY:∀ (w:World) (h:Heap),YP w h→(K w.params).In h)
  (F:∀ (w:World) (mg:Str→Option Value) (fa:Addr) (h:Heap),(K w.params).In h→h.Ns mainGlobals mg→mg d.name=some (.ref fa) →
   ∃ fd:FuncData,(∀ (s:Shared) (u:Value),BindsTo s fd ⟨[u],[]⟩ [("_law_script",u)])∧∀ base:Heap,(K w.params).In base→base.Ns mainGlobals mg→FnOk l.prog w (K w.params) mg base CX0 23 fa fd ["_law_script"] (zg6 (K w.params))) :
  PySem.W.WalkO q loose XP YP l.row.toRowW d [] (fun f vs=>PySem.call f vs) :=
 L2.zlW (n:=63) (k:=23) (x:="_law_script") (CX:=fun _=>CX0) (sp:=fun w=>zg6 (K w.params)) hn (by decide) hdf ⟨rfl,by decide,by decide⟩ hY F (fun _ H a ns hl hO hS=>law_start hl hS) fun _ _ _ _ _ z=>z
end Prf
set_option genInjectivity false in
set_option genSizeOf false in
structure PySem.W.Fast:Prop where
 (tw4916359531428515053 tw5309803960157330322 tw9872876926319663041 tw1342626341969570110 tw6005463636371531962 tw8628540986310781264 tw6508714250699314310 tw11997782385189013411 tw5880788097124490602 tw5044689468589891557 tw3347291197710607270 tw3899162800201569217 tw508812064454342411 tw14631233351932237246 tw9979736951141156027 tw8206197701839589653 tw9839147786255470718 tw828732120592348700 tw13107106009506584484 tw14254512347808482789 tw15228129551146859703 tw15212426705699881507 tw10408131729102852298 tw172948052755565544 tw14313900658206697336 tw1161186374161045858 tw5872090891653044691 tw13090740852008683313 tw12181201517509578876 tw18064643412121377067 tw9725691164044239973 tw7217386237115110095 tw14136716980779497456 tw15074371441217587902 tw10035521684747485541 tw16901024497120088274 tw11096030923099790903 tw13335809693295428853 tw6340215787358227696 tw14084087362415302950:True)
 (tw9331955980694824399 tw5377266136256983850 tw13830455585779288555 tw2365616629323886227 tw3448718226245134885 tw4192455511951125778 tw10076781173092848594 tw3172316134264374176 tw8242071234699134026 tw2505479606131160059 tw11738611485189703845 tw10097005620112152743 tw1168043156280254347 tw11008495439216262474 tw3069581402312958702 tw10255427672820735071 tw4576361628129837864 tw10491481536098483634 tw14595953748684352333 tw11797426241306987436 tw12263921490268237093 tw1767825906266988302 tw11569080710032686338 tw966422669789443827 tw5523302894851072673 tw10363890371907670178 tw6114262256584735712 tw14941292706479218493 tw18306631475236250346 tw4076352891690254042 tw17020099884236258478 tw2475014322399231361 tw13118230726568702536 tw5729919004351787430 tw14605292704764743963 tw2959558069437985234 tw5119497855485124979 tw14387850157283117739 tw8244517825079405493 tw1555659926030941643:True)
 (tw10865114713280107094 tw11142980509445891941 tw3690523296224479547 tw10634158666337261340 tw6930993888257846784 tw2838079715716497331 tw12506793336861856433 tw10315741553434663822 tw881434797477904744 tw10557671668113080315 tw3093780606584160302 tw7273897761635219763 tw349992472329290880 tw7497037031376182572 tw8602026902324786716 tw10391882599063508571 tw5660177586039539193 tw1328419035567990502 tw6218192993286085081 tw13741769924159026945 tw4958637284872031406 tw11714745958752768646 tw13382975783470236502 tw10025297589567235298 tw10258168080848538230 tw12414641509113911347 tw18074466324420640707 tw4278647900713647222 tw8614635916411598011 tw9637104582216551036 tw15399899888885581888 tw6222869306621815147 tw10135809902649900071 tw18168330798433693584 tw5207200194262059691 tw8219104366232679942 tw9647376728500346578 tw17612652389162320117 tw2612502853103919696 tw8733294799993604455:True)
 (tw17810255626296840708 tw11647217394337742083 tw6285149746213122493 tw11984515435132324983 tw2062022197775221537 tw15664503917913829036 tw215389484338108629 tw9729903646900517736 tw2915915111417661773 tw2367522502828001337 tw774016316309593733 tw2910726831379466639 tw7846160794745085614 tw17997794650729981805 tw10343490502729854495 tw15828742515926855404 tw15634277669411756584 tw18188996895068511948 tw2627154192840554607 tw16776396796684379647 tw16338108532481699714 tw11476650456536965460 tw16759614303603085375 tw16216972620174246450 tw14700072991494716277 tw17565248887038053801 tw321460271616825728 tw5510227193969061888 tw1808801895804151997 tw17586953487541560542 tw2289571573200845849 tw16253665050400676853 tw3008680134150672310 tw15277175325419731277 tw1688127776998922310 tw361992322168771167 tw14576631120725381835 tw1459837159857678175 tw10544730598242155529 tw15706875130789141073:True)
 (tw10538092390663752224 tw1755273722428459432 tw7463320137212900064 tw10172258752150985181 tw11340622770503499194 tw3359881247524165339 tw14073768820380556766 tw5908430269180465655 tw15034772599677797361 tw16503677885195124405 tw7171727857285905036 tw15546073351410550356 tw17652077336866523645 tw322464537877921283 tw16251772910754920405 tw11945415039456266081 tw693733206648108164 tw15044801522916070235 tw2968915468506539876 tw1508892338395810250 tw17320671224143513652 tw7922363425178491967 tw3740117140704764473 tw3039299119508518753 tw7457094770410200398 tw5236689452418873518 tw3412940614792001568 tw2380064672259291834 tw18247056540783089721 tw4523904501809940168 tw9875621288381361369 tw6704882394574996416 tw8311409354576068047 tw10233074926425522771 tw13660002468914064947 tw6291735133021499820 tw16776978155501637378 tw3504693708104808417 tw2980956382295784657 tw2849895121756449034:True)
 (tw1123701199901105314 tw731374761602122098 tw4776946237736070380 tw9521688051429089747 tw3092051947103668292 tw6954256755788405592 tw9592823848757062402 tw17927779949709419448 tw8405780632599836672 tw6659015725015577734 tw16837474837719302515 tw5722827755922576773 tw3515211903993577503 tw8913807439955609299 tw10188212344421833884 tw2254478338960725632 tw7007532133985925363 tw324928839756294168 tw2698620428456456500 tw14861548558898541092 tw11494388164483569235 tw11150845599585323560 tw17105779884461086977 tw7749594786482798820 tw69730373159687202 tw3470958010220035850 tw6064821942623080286 tw6501563966270297044 tw6865756151729567858 tw14699086315095923425 tw2970792423182196402 tw2752410926968381617 tw3534863481875353203 tw16901742341666228233 tw3735605192018834693 tw14336563887144657426 tw13485379346574428686 tw15057143773186830783 tw9241414583022834597 tw10527115082858210810:True)
 (tw1997174220027882501 tw2224297516894165841 tw12165091943781962623 tw613977427439879402 tw6386371403923703326 tw11912698928295872048 tw6146172009824707767 tw14679956852759734989 tw15164672342714699666 tw10928534091404984371 tw17957091178248443945 tw15533359432012636781 tw17786438905723933420 tw14037718383530541268 tw10981822470341869658 tw4363947980227672388 tw11277344241495576665 tw15255944573435403374 tw12486177805097053503 tw11045581283936292488 tw10169255434860334160 tw9053159125677800118 tw17658569772581876994 tw15135980518228390715 tw2387645851981492179 tw10057365373986018003 tw7221618066810992825 tw15143872947892749837 tw8414409326852229325 tw11472270704752972851 tw1639700364558548087 tw18221158593330901597 tw11880645218473230206 tw4789247520127271776 tw6683305377898695298 tw7961342192585254922 tw5988494524827625066 tw7405311993981563237 tw7751692110925544026 tw4946468097325114405:True)
 (tw6477018750090656969 tw625164272457952922 tw6579038062243973036 tw16264104683433722731 tw14417202445336501816 tw2790732937918077006 tw2668224388836668479 tw11930783445345107793 tw361012724596826826 tw11903498733622223296 tw821623474994598463 tw1765807857495028529 tw13127129140188786711 tw3297401289945025790 tw14426319208923959486 tw1588554361855252771 tw2669631874974070914 tw18164181226515263361 tw9682290085284277456 tw11674185516240381349 tw6045956743846109330 tw16154162080539943162 tw10062375811958136255 tw17881672487212504161 tw4693065523263355514 tw5053360564510869946 tw610951761055410917 tw1905307944701295240 tw917039283429605145 tw4074706626553711441 tw8300147758971859579 tw15021306881478217155 tw2487324995107354962 tw16889327535037639411 tw8320220679196537208 tw12112136040610105658 tw18176714978935240015 tw9727997911281641485 tw1214392492975841482 tw2150952690459405254:True)
 (tw12879860538494088600 tw15963068746124778325 tw2514781888530376803 tw15011629383925024160 tw9748675522462974123 tw18089619245892819309 tw8366995206280307906 tw8503293007164216834 tw6192486441280506843 tw15657088383515564650 tw4511542022300731748 tw8462211537780483103 tw2089646005276814209 tw16386946578866873476 tw9740930516922345058 tw12471631421668414871 tw3785208750382638185 tw15723785704568294413 tw11815455265009823014 tw5399060632370140822 tw7264068623577296579 tw11235532360525449903 tw11735340404232362903 tw14821212164169800789 tw2920405058929419328 tw16990417444285289701 tw1378053820430944854 tw2612314161404354887 tw9148845213235322948 tw17112657211734199242 tw1789406513102368191 tw11037253634804526877 tw5203569635796677029 tw4829422469287342631 tw16347496335216055066 tw7770728406430658558 tw6037980021631715148 tw15971470462672044764 tw621477450198962753 tw5353574100721902667:True)
 (tw3104380165840274197 tw3669804569786375135 tw8365363265685813406 tw14270915399465957259 tw6637909583291210259 tw6201537608139502564 tw5791478730805186368 tw17066243801852981145 tw5861578145637705756 tw2636971632542942667 tw13932176779678104749 tw16705053686862908947 tw13728861701214897995 tw17091369208626582686 tw387974550857420978 tw7443506818584117798 tw12551931349511015507 tw2425451570938055883 tw7667727709360008219 tw4713407492237925987 tw5036393835971101484 tw12390697914434047128 tw6100904685142666771 tw16096926287435477766 tw8380706779676670737 tw7126413198349418430 tw4642484629701955958 tw10140610105999659164 tw14989158867710039164 tw16373934086718568828 tw13084338961534059685 tw15452138978715704019 tw16297139012213349327 tw14983453783461987559 tw4739746850300352083 tw4012724707143455623 tw8738307300858385729 tw13353673291225999646 tw8020105429025671256 tw47956902534149336:True)
 (tw5885068146926866892 tw15257496248018115354 tw13210190658874183738 tw1915326452575386396 tw816031233764129173 tw8825932421198384483 tw4184353997004081692 tw12729499600709288176 tw13459216432964492164 tw682620089007662240 tw1170561918224396863 tw11348445329124339678 tw18025256695652834972 tw3234438661697974115 tw8046588007965415218 tw14503255207472314183 tw11426872541445597325 tw2610685144799624374 tw5783144645350927971 tw16195388691666394272 tw5515333295365581365 tw8999811616655504392 tw10112119105929830941 tw1840215675144532969 tw15467318652777177870 tw6705493325354091150 tw2827493923688365486 tw3290299599116391286 tw12039767814654995350 tw15740624090539032259 tw3599559253855219842 tw15989019200122461865 tw3241674187067109715 tw9939665527782524059 tw13440412993297393712 tw17928685165750994183 tw6995463773729970461 tw1952754536318917476 tw12990198976674543918 tw17418014035759535556:True)
 (tw3245591712116303475 tw16793339320962449629 tw4103534419063985104 tw16842505519381709090 tw4586237443116999419 tw5653807974357606353 tw18331523412768084766 tw3908585859833621786 tw8304779855449505438 tw9055746141065948942 tw1096183251293661740 tw18433049287883727960 tw7068055263304022098 tw8124773876416814764 tw7875873047902249294 tw15029208515718083675 tw16770247216651603614 tw17567478104513891314 tw1969623783642415881 tw3693212291929605680 tw16130918585985580995 tw10265678166471097662 tw1398609639404201035 tw11826475065665304474 tw15083064453170473930 tw4930453567640129400 tw16736597688955934416 tw12581188593949290999 tw8322873576759839934 tw8613008512168092106 tw9944870420911242429 tw8803481461186360277 tw12990165388228026847 tw2966459060568822411 tw3176354076883200646 tw6324308157271523003 tw9767916383866092752 tw8932645373391215156 tw10545036753597694444 tw7074432013192700461:True)
 (tw7062839500704436858 tw312358047197093412 tw10474450803157300695 tw4966278172642259325 tw8132017446794517932 tw16880049737720479189 tw16401202276949433639 tw3052381951342481797 tw10940827287209162715 tw9940512064896307414 tw10781621083383988223 tw13855213953214853803 tw14716962324061107681 tw10991381263891840874 tw16554042250704943157 tw6152549920712758876 tw6039618401735629013 tw4162839400738255817 tw15340834077386550399 tw8924838367531161464 tw14025901665299710756 tw6155616378461941441 tw6881011058173136847 tw3843047896859036123 tw17832211163473565339 tw15775893402305065712 tw7494147291995665674 tw13382667788106172998 tw7487327430916638648 tw4245642673449520958 tw3039559607389300792 tw5126294413589029940 tw7810505971074135851 tw15847982914074167650 tw13410922697977934863 tw6799282474404236285 tw17998212900045484688 tw4158846725458978562 tw9579594407023435079 tw8491508615926421321:True)
 (tw6253665044352056907 tw2121881354743201079 tw14102982376114999420 tw13345374806489922822 tw10955767694301056472 tw5727255535098834428 tw16865811749376484351 tw17506290317044348637 tw15304719866323791352 tw3702505663117673321 tw7358799586934335854 tw418191995186263041 tw4427368661995173269 tw837994440974460520 tw15047717639695022316 tw4633688603547373108 tw12898807772434175366 tw14213451506167292871 tw16250976001486093873 tw219382532372527651 tw4015776805010652065 tw4271913591097269488 tw12011796809013020678 tw13198953398423224158 tw920809725137002154 tw6793159089823511204 tw5942057586524084412 tw9494142932398410484 tw10586015974220810301 tw1674823867035984457 tw1009835381202477076 tw6301919426090378925 tw5056471082880747923 tw2681409262196400333 tw5003471745960312687 tw8125891675575507687 tw10771990146740002843 tw8831642720118740368 tw6951656961489910704 tw11284588215934862647:True)
 (tw12668681970753969575 tw5094457622664894929 tw539731808377552281 tw782627652101881988 tw1140015286730098986 tw16083612202508241893 tw3477597002132095994 tw2613459482401282633 tw10126015836625816693 tw7860048211251439904 tw1875973984955021468 tw14829876984503740824 tw14849839868285054142 tw1334052737713263985 tw6260693209501590254 tw2649331800744056155 tw989435416070935279 tw5609175864970182092 tw17126004140661762020 tw5312564448049901406 tw15535552197352038838 tw6914963711284968427 tw16324047652100178070 tw7272481592693517070 tw13814316961650171175 tw4868372536868225488 tw4774024832395953820 tw16148180255120526282 tw7255391132377017118 tw3223520016138191317 tw3441947861454321855 tw3620159700513398800 tw18355193123840448563 tw9694533870829539590 tw15283275269421270177 tw15896376665024685029 tw14495336927631975224 tw17221091859930755789 tw1505565750241069237 tw11492885247632403671:True)
 (tw10194327227817221086 tw8175365635518906444 tw17624677270972910589 tw18174260703201778553 tw1800594577261022071 tw635181312799149330 tw16403646481734495027 tw5856285554049094062 tw11152966390952110 tw9895147433955432271 tw10564172511999985284 tw16523306553623061608 tw7681443883260479588 tw13503661241594040936 tw14866461362003029628 tw17150238000714827548 tw16345662968439026753 tw12188478315938405369 tw14525312128859856075 tw3852643332305911992 tw6010736147871119380 tw4606568970135652074 tw10611241494461990233 tw14331510116871992284 tw806634207286414800 tw6383032272938281383 tw17721629169788579609 tw15605194061019821399 tw7707474923237685858 tw17716897672513829199 tw2512142979208850703 tw3152189232095847511 tw10250181521207677717 tw11647419482067254384 tw7038178207464902844 tw18051788259210212191 tw18343673795098678725 tw13810976417943193326 tw4505845077428402231 tw2917472371041664355:True)
 (tw11654388336784206222 tw7715471937285829773 tw7146472898809077590 tw7316277620007664467 tw17243306070535509996 tw15830300528765950395 tw9097177413464062080 tw10344429698450629133 tw603728878839444215 tw4975547791433646680 tw13893599399349070327 tw17143394191950584999 tw5042858132860884003 tw16661451805826057266 tw6823279902593345582 tw16205576712976201050 tw15381253517581178352 tw1648247853215025098 tw14838556527829436739 tw1368996083891967762 tw8202516737212232777 tw17698894636340645750 tw2510714539041180076 tw13260705612754725228 tw18039674647973051124 tw294435011546889192 tw5839402006506008700 tw14276218268003044496 tw8477294875087277309 tw479223447528947179 tw6067285145264366876 tw17016418263222100575 tw15585913442611330268 tw7630349592421259461 tw7155669389971494807 tw11159644177222579495 tw6368367050407981741 tw2680810792707949818 tw16673704577606872894 tw4055467626028960246:True)
 (tw12405382663851454715 tw234948870597774207 tw8226748024060207906 tw12026346599132932825 tw6967068244909559281 tw5207506394620720784 tw15040744749768877252 tw5067299061129671017 tw4138500159554847187 tw2779763377126439143 tw3765236600173207117 tw6192912101847938078 tw3802605817275611111 tw18238931179699084227 tw16501415470397784072 tw1260266816629900895:True)
open PySem PySem.W PyProof.Rows
set_option maxRecDepth 100000 in
set_option maxHeartbeats 0 in
theorem PySem.Challenge.cw_secondread_k43_whole_disputes_holds : PySem.Challenge.rw_secondread_k43_whole_disputes.Holds := by
 w_on;o_law;k_head;(case hw=>w_witness2)
 k_fill
 refine Prf.walk (l:=PySem.Challenge.rw_secondread_k43_whole_disputes) rfl rfl (fun w h Y=>kIn_of Y) ?F
 case F =>
  intro w mg fa h KX G hmg;refine' Prf.zn3 KX G hmg ?aC_Attempt ?aC_Exam ?a0 ?l0 ?c0 ?k0 ?a1 ?l1 ?c1 ?k1 ?a2 ?l2 ?c2 ?k2 ?a3 ?i3 ?l3 ?c3 ?k3 ?a4 ?i4 ?l4 ?c4 ?k4 ?a5 ?l5 ?c5 ?k5 ?a6 ?i6 ?l6 ?c6 ?k6 ?a7 ?l7 ?c7 ?k7 ?a8 ?l8 ?c8 ?k8 ?a9 ?i9 ?l9 ?c9 ?k9 ?a10 ?i10 ?l10 ?c10 ?k10 ?a11 ?l11 ?c11 ?k11 ?a12 ?l12 ?c12 ?k12 ?a13 ?l13 ?c13 ?k13 ?a14 ?l14 ?c14 ?k14 ?a15 ?l15 ?c15 ?k15 ?a16 ?l16 ?c16 ?k16 ?a17 ?l17 ?c17 ?k17 ?a18 ?l18 ?c18 ?k18 ?a19 ?i19 ?l19 ?c19 ?k19 ?a20 ?i20 ?l20 ?c20 ?k20 ?a21 ?i21 ?l21 ?c21 ?k21 ?a22 ?l22 ?c22 ?k22 ?a23 ?l23 ?c23 ?k23 ?a24 ?l24 ?c24 ?k24 ?a25 ?l25 ?c25 ?k25 ?a26 ?l26 ?c26 ?k26 ?a27 ?i27 ?l27 ?c27 ?k27 ?a28 ?i28 ?l28 ?c28 ?k28 ?a29 ?l29 ?c29 ?k29 ?a30 ?l30 ?c30 ?k30 ?a31 ?l31 ?c31 ?k31 ?a32 ?l32 ?c32 ?k32 ?a33 ?l33 ?c33 ?k33 ?a34 ?l34 ?c34 ?k34 ?a35 ?l35 ?c35 ?k35 ?a36 ?l36 ?c36 ?k36 ?a37 ?l37 ?c37 ?k37 ?a38 ?l38 ?c38 ?k38 ?a39 ?i39 ?l39 ?c39 ?k39 ?a40 ?i40 ?l40 ?c40 ?k40 ?a41 ?i41 ?l41 ?c41 ?k41 ?a42 ?i42 ?l42 ?c42 ?k42 ?a43 ?l43 ?c43 ?k43 ?a44 ?i44 ?l44 ?c44 ?k44 ?a45 ?l45 ?c45 ?k45 ?a46 ?i46 ?l46 ?c46 ?k46 ?a47 ?i47 ?l47 ?c47 ?k47 ?a48 ?i48 ?l48 ?c48 ?k48 ?a49 ?l49 ?c49 ?k49 ?a50 ?l50 ?c50 ?k50 ?a51 ?l51 ?c51 ?k51 ?a52 ?l52 ?c52 ?k52 ?a53 ?l53 ?c53 ?k53 ?a54 ?i54 ?l54 ?c54 ?k54 ?a55 ?l55 ?c55 ?k55 ?a56 ?l56 ?c56 ?k56 ?a57 ?l57 ?c57 ?k57 ?a58 ?l58 ?c58 ?k58 ?a59 ?l59 ?c59 ?k59 ?a60 ?l60 ?c60 ?k60 ?a61 ?i61 ?l61 ?c61 ?k61 ?a62 ?i62 ?l62 ?c62 ?k62 ?a63 ?l63 ?c63 ?k63 ?pg_Attempt ?hd_Attempt ?po_Attempt ?sa_Attempt ?mk_Attempt ?kc_Attempt ?n_Attempt_allowed ?n_Attempt_given ?n_Attempt_spare ?pg_Exam ?hd_Exam ?po_Exam ?sa_Exam ?mk_Exam ?kc_Exam ?n_Exam_paper_houses ?n_Exam_reader_rows ?n_Exam_widest_step ?n_Exam_is_dealt ?n_Exam_named_readers ?n_Exam_entered_points ?v_READERS_EACH ?v_MOST_HOUSES ?v_MOST_PAPERS ?v_MOST_LIMIT ?v_MOST_READERS ?v_MOST_STEP ?v_MOST_POINTS ?z_abs ?z_all ?z_bool ?z_enumerate ?z_int ?z_isinstance ?z_len ?z_list ?z_max ?z_min ?z_range ?z_sorted ?z_sum ?z_zip
  (case aC_Attempt=>k_is)
  (case aC_Exam=>k_is)
  all_goals (try k_is)
  all_goals k_is
