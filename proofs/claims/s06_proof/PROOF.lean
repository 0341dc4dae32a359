import PyProof.Rows.All
import Wide.All
import OpenK.AllK
import Wide.FinOn
import PyProof.EqAt
import PyProof.EqKinds
import PyProof.TupleCall
import KE.BitLaws
import KE.KTupSum
import KE.OsGo
import Open.SpecLaws
import PyProof.ZipIter
import PyProof.TupleIter
import PyProof.Draws
import PyProof.WalksMore
import PyProof.EnumMake
import PyProof.Rows.SetFrom
import PyProof.SetKind
import PyProof.TupleKey
import PySem.SetTable
import PyProof.DictRoadsH
import PyProof.MeetsDict
import PyProof.DefCall
import PySem.Challenge.RW_linewords_s06_answers
set_option Elab.async false
set_option linter.all false
set_option maxRecDepth 100000
namespace L2
open PySem PySem.Spec PyProof.Rows
abbrev Key := Sum Int Str
def keyIs : Key → Value → Bool
 | .inl k,v => Value.isInt k v
 | .inr x,v => Value.isStrOf x v
def keyH (w : World) : Key → Int
 | .inl k => hashInt k
 | .inr x => hashStr w x
theorem keyIs_shape : ∀ {k : Key} {v : Value},keyIs k v = true → (∃ i t,k = Sum.inl i ∧ v = Value.int i t) ∨ (∃ x t,k = Sum.inr x ∧ v = Value.str x t)
 | .inl i,v,h => by
  obtain ⟨t,e⟩ := Value.isInt_shape (k := i) (v := v) h
  exact .inl ⟨i,t,rfl,e⟩
 | .inr x,v,h => by
  obtain ⟨t,e⟩ := Value.isStrOf_shape (x := x) (v := v) h
  exact .inr ⟨x,t,rfl,e⟩
theorem keyIs_int (i : Int) (t : Tok) : keyIs (.inl i) (.int i t) = true := by simp [keyIs,Value.isInt]
theorem keyIs_str (x : Str) (t : Tok) : keyIs (.inr x) (.str x t) = true := by simp [keyIs,Value.isStrOf]
theorem key_ll (a b : Int) : decide ((Sum.inl a : Key) = Sum.inl b) = (a == b) := by
 by_cases e : a = b
 ·subst e; simp
 ·have h : ¬ (Sum.inl a : Key) = Sum.inl b := fun q => e (Sum.inl.inj q)
  rw [decide_eq_false h]
  exact (beq_eq_false_iff_ne.mpr e).symm
theorem key_rr (a b : Str) : decide ((Sum.inr a : Key) = Sum.inr b) = decide (a = b) := by
 by_cases e : a = b
 ·subst e; simp
 ·have h : ¬ (Sum.inr a : Key) = Sum.inr b := fun q => e (Sum.inr.inj q)
  rw [decide_eq_false h,decide_eq_false e]
theorem key_lr (a : Int) (b : Str) : decide ((Sum.inl a : Key) = Sum.inr b) = false := decide_eq_false (fun q => nomatch q)
theorem key_rl (a : Str) (b : Int) : decide ((Sum.inr a : Key) = Sum.inl b) = false := decide_eq_false (fun q => nomatch q)
def mixKind (prog : Program) (w : World) : PySem.KeyKind prog w Key where
 is := keyIs
 hash := keyH w
 inj := fun v a b ha hb => by
  rcases keyIs_shape ha with ⟨i,t,rfl,rfl⟩ | ⟨x,t,rfl,rfl⟩
  ·rcases keyIs_shape hb with ⟨j,u,rfl,e⟩ | ⟨y,u,rfl,e⟩
   ·injection e with e1 _; rw [e1]
   ·exact nomatch e
  ·rcases keyIs_shape hb with ⟨j,u,rfl,e⟩ | ⟨y,u,rfl,e⟩
   ·exact nomatch e
   ·injection e with e1 _; rw [e1]
 byValue := fun k v h => by
  rcases keyIs_shape h with ⟨i,t,rfl,rfl⟩ | ⟨x,t,rfl,rfl⟩ <;> rfl
 pyHash := fun hv h => by
  rcases keyIs_shape hv with ⟨i,t,rfl,rfl⟩ | ⟨x,t,rfl,rfl⟩
  ·exact wpAny_pyHash_int h
  ·exact wpAny_pyHash_str h
 eqBool := fun hu hv h => by
  rcases keyIs_shape hu with ⟨i,t,rfl,rfl⟩ | ⟨x,t,rfl,rfl⟩
  ·rcases keyIs_shape hv with ⟨j,u,rfl,rfl⟩ | ⟨y,u,rfl,rfl⟩
   ·rw [key_ll] at h; exact wpAny_eqBool_int h
   ·rw [key_lr] at h; exact SeqAt.EqAt.int_str i t y u _ _ _ _ h
  ·rcases keyIs_shape hv with ⟨j,u,rfl,rfl⟩ | ⟨y,u,rfl,rfl⟩
   ·rw [key_rl] at h; exact SeqAt.EqAt.str_int x t j u _ _ _ _ h
   ·rw [key_rr] at h; exact wpAny_eqBool_str h
 «strs» := fun k x t v h => by
  rcases keyIs_shape h with ⟨i,u,rfl,e⟩ | ⟨y,u,rfl,e⟩
  ·exact nomatch e
  ·injection e with e1 _
   subst e1
   cases v <;> rfl
theorem mixKind_int (prog : Program) (w : World) (i : Int) (t : Tok) : (mixKind prog w).is (.inl i) (.int i t) = true := keyIs_int i t
theorem mixKind_str (prog : Program) (w : World) (x : Str) (t : Tok) : (mixKind prog w).is (.inr x) (.str x t) = true := keyIs_str x t
end L2
namespace L2
open PySem PySem.Spec PyProof.Rows
inductive V where
 | non | bl (b : Bool) | int (i : Int) | str (x : Str) | byt (b : Array UInt8) | flt (b : UInt64) | ref (a : Addr) | ty (n : String)
 deriving DecidableEq
def RelV : V → Value → Prop
 | .non,u => u = Value.none
 | .bl b,u => u = Value.bool b
 | .int i,u => ∃ t,u = Value.int i t
 | .str x,u => ∃ t,u = Value.str x t
 | .byt b,u => ∃ t,u = Value.bytes b t
 | .flt b,u => ∃ t,u = Value.float b t
 | .ref a,u => u = Value.ref a
 | .ty n,u => u = Value.type n
abbrev Vals : List V → List Value → Prop := Paired RelV
theorem Vals.length {xs : List V} {us : List Value} (r : Vals xs us) : xs.length = us.length := Paired.length r
theorem Vals.get : ∀ {xs : List V} {us : List Value} {i : Nat} {x : V},Vals xs us → xs[i]? = some x → ∃ u,us[i]? = some u ∧ RelV x u
 | _,_,_,_,.nil,e => by simp at e
 | _,_,0,_,.cons r _,e => by simp at e; subst e; exact ⟨_,rfl,r⟩
 | _,_,i + 1,x,.cons _ t,e => by
  obtain ⟨u,h1,h2⟩ := Vals.get (i := i) (x := x) t (by simpa using e)
  exact ⟨u,by simpa using h1,h2⟩
theorem Vals.set {x : V} {u : Value} (r : RelV x u) : ∀ {xs : List V} {us : List Value} (i : Nat),Vals xs us → Vals (xs.set i x) (us.set i u)
 | _,_,_,.nil => .nil
 | _,_,0,.cons _ t => .cons r t
 | _,_,i + 1,.cons q t => .cons q (Vals.set r i t)
theorem Vals.append : ∀ {xs ys : List V} {us ws : List Value},Vals xs us → Vals ys ws → Vals (xs ++ ys) (us ++ ws)
 | _,_,_,_,.nil,s => s
 | _,_,_,_,.cons r t,s => .cons r (Vals.append t s)
theorem Vals.take : ∀ {xs : List V} {us : List Value} (n : Nat),Vals xs us → Vals (xs.take n) (us.take n)
 | _,_,0,_ => .nil
 | _,_,_ + 1,.nil => .nil
 | _,_,n + 1,.cons r t => .cons r (Vals.take n t)
theorem Vals.drop : ∀ {xs : List V} {us : List Value} (n : Nat),Vals xs us → Vals (xs.drop n) (us.drop n)
 | _,_,0,r => r
 | _,_,_ + 1,.nil => .nil
 | _,_,n + 1,.cons _ t => Vals.drop n t
def RelO : Option V → Option Value → Prop
 | some v,some u => RelV v u
 | none,none => True
 | _,_ => False
def KV {κ : Type} : List (κ × V) → List (κ × Value) → Prop := Paired fun (p : κ × V) (q : κ × Value) => p.1 = q.1 ∧ RelV p.2 q.2
def kV : Key → V
 | .inl i => .int i
 | .inr x => .str x
inductive HO where
 | lst (xs : List V)
 | tup (xs : List V)
 | dK (kvs : List (Key × V)) | dT (kvs : List (List Key × V))
 | set (S : Int → Bool) (n : Nat)
 | ins (C dx : Addr) (fs : List (Str × V))
 | own (x : Addr)
 | xd (fs : List (Str × V))
 | met (f x : Addr)
 | rng (lo hi : Int)
 | frz (o : Obj) (u : HO)
 | tbl (ps : Array Value)
 | ext (φ : Heap → Prop)
abbrev Hp := Addr → Option HO
def upd (H : Hp) (a : Addr) (o : HO) : Hp := fun b => if b = a then some o else H b
theorem upd_same {H : Hp} {a : Addr} {o : HO} : upd H a o a = some o := by unfold upd; rw [if_pos rfl]
theorem upd_ne {H : Hp} {a b : Addr} {o : HO} (h : b ≠ a) : upd H a o b = H b := by unfold upd; rw [if_neg h]
theorem upd_upd {H : Hp} {a : Addr} {o u : HO} : upd (upd H a o) a u = upd H a u := by
 funext b; unfold upd; split <;> rfl
theorem ne_of {H : Hp} {a b : Addr} {o u : HO} (h : H a = some o) (h' : H b = some u) (d : o ≠ u) : a ≠ b := by
 intro e; subst e; rw [h] at h'; exact d (Option.some.inj h')
theorem ne_of_none {H : Hp} {a b : Addr} {o : HO} (h : H a = some o) (h' : H b = none) : a ≠ b := by
 intro e; subst e; rw [h] at h'; cases h'
section
variable (P : Program) (w : World)
def ObjOk (H : Hp) (h : Heap) (a : Addr) : HO → Prop
 | .lst xs => xs.length ≤ sizeLine ∧ ∃ (its : List Value) (n : Nat),Vals xs its ∧ h.get? a = some { cls := .type "list",data := .seq its.toArray n }
 | .tup xs => xs.length ≤ sizeLine ∧ ∃ its : List Value,Vals xs its ∧ IsTup h a its.toArray
 | .dK kvs => kvs.length ≤ sizeLine ∧ (a == sysModules) = false ∧ ∃ vs,KV kvs vs ∧ h.DictOf (mixKind P w) a vs
 | .dT kvs => kvs.length ≤ sizeLine ∧ (a == sysModules) = false ∧ ∃ xs : List (List Key × Addr × Value),
   Paired (fun (p : List Key × V) (q : List Key × Addr × Value) => p.1 = q.1 ∧ H q.2.1 = some (.tup (p.1.map kV)) ∧ RelV p.2 q.2.2) kvs xs ∧
   ∃ o es ep,h.get? a = some o ∧ o.ExactDict ∧ o.data = .dict es ep ∧ es.toList = xs.map (entryOfKey (tupleKind (mixKind P w))) ∧ (xs.map (·.1)).Nodup
 | .set S n => h.SetOf (intKind P w) a S n
 | .ins C dx fs => H dx = some (.own a) ∧ fs.length ≤ 1000 ∧ dx ≠ a ∧ h.get? a = some (PySem.W.instObj C dx) ∧
   ∃ mA,h.Ns1 dx mA ∧ (∀ f,RelO (fs.lookup f) (mA f)) ∧ PySem.Within mA (fs.map (·.1))
 | .own _ => ∃ o,h.get? a = some o
 | .xd fs => ∃ mA,h.Ns1 a mA ∧ ∀ f,RelO (fs.lookup f) (mA f)
 | .rng lo hi => ∃ t u v,h.get? a = some { cls := .type "range",data := .fields #[.int lo t,.int hi u,.int 1 v] }
 | .frz o u => h.get? a = some o ∧ ObjOk H h a u
 | .tbl ps => h.get? a = some { cls := .none,data := .fields ps }
 | .met f x => h.get? a = some (PySem.W.methodObj (.ref f) (.ref x))
 | .ext φ => φ h ∧ (∃ o,h.get? a = some o) ∧ ∀ h1 h2 : Heap,φ h1 → (∀ o,h1.get? a = some o → h2.get? a = some o) → φ h2
def HOk (H : Hp) (h : Heap) : Prop := ∀ a o,H a = some o → ObjOk P w H h a o
end
section
variable {P : Program} {w : World} {H H' : Hp} {h h' : Heap} {a : Addr} {o : HO}
theorem ObjOk.lt (x : ObjOk P w H h a o) : a < h.objs.size := by
 cases o with
 | lst xs => obtain ⟨_,_,_,_,e⟩ := x; exact Heap.lt_size e
 | tup xs => obtain ⟨_,_,_,p⟩ := x; exact p.lt
 | dK kvs => obtain ⟨_,_,_,_,o,_,_,e,_⟩ := x; exact Heap.lt_size e
 | dT kvs => obtain ⟨_,_,_,_,o,_,_,e,_⟩ := x; exact Heap.lt_size e
 | set S n => obtain ⟨o,_,_,_,e,_⟩ := x; exact Heap.lt_size e
 | ins C dx fs => obtain ⟨_,_,_,e,_⟩ := x; exact Heap.lt_size e
 | own y => obtain ⟨_,e⟩ := x; exact Heap.lt_size e
 | xd fs => obtain ⟨_,⟨_,_,_,e,_⟩,_⟩ := x; exact Heap.lt_size e
 | rng lo hi => obtain ⟨_,_,_,e⟩ := x; exact Heap.lt_size e
 | frz ob u => obtain ⟨e,_⟩ := x; exact Heap.lt_size e
 | tbl ps => exact Heap.lt_size (show h.get? a = some _ from x)
 | met f y => exact Heap.lt_size (show h.get? a = some _ from x)
 | ext φ => obtain ⟨_,⟨_,e⟩,_⟩ := x; exact Heap.lt_size e
theorem Paired.mapP {α β : Type} {F G : α → β → Prop} : ∀ {l₁ : List α} {l₂ : List β},Paired F l₁ l₂ → (∀ a b,F a b → G a b) → Paired G l₁ l₂
 | _,_,.nil,_ => .nil
 | _,_,.cons r t,f => .cons (f _ _ r) (Paired.mapP t f)
theorem ObjOk.stay (x : ObjOk P w H h a o) (k : ∀ b u,(b = a ∨ H b = some (.own a)) → h.get? b = some u → h'.get? b = some u)
  (ho : ∀ b,H b = some (.own a) → H' b = some (.own a)) (ht : ∀ b xs,H b = some (.tup xs) → H' b = some (.tup xs)) : ObjOk P w H' h' a o := by
 induction o with
 | lst xs => obtain ⟨z,its,n,r,e⟩ := x; exact ⟨z,its,n,r,k _ _ (.inl rfl) e⟩
 | tup xs => obtain ⟨z,its,r,ob,e,c⟩ := x; exact ⟨z,its,r,ob,k _ _ (.inl rfl) e,c⟩
 | dK kvs => obtain ⟨z,y,vs,r,ob,es,ep,e,c⟩ := x; exact ⟨z,y,vs,r,ob,es,ep,k _ _ (.inl rfl) e,c⟩
 | dT kvs =>
  obtain ⟨z,y,xs,r,ob,es,ep,e,c⟩ := x
  exact ⟨z,y,xs,Paired.mapP r fun p q z => ⟨z.1,ht _ _ z.2.1,z.2.2⟩,ob,es,ep,k _ _ (.inl rfl) e,c⟩
 | set S n => obtain ⟨ob,es,ep,t,e,c⟩ := x; exact ⟨ob,es,ep,t,k _ _ (.inl rfl) e,c⟩
 | ins C dx fs =>
  obtain ⟨d,z,ne,e,mA,⟨od,es,ep,e2,c⟩,r⟩ := x
  exact ⟨ho _ d,z,ne,k _ _ (.inl rfl) e,mA,⟨od,es,ep,k _ _ (.inr d) e2,c⟩,r⟩
 | own y => obtain ⟨ob,e⟩ := x; exact ⟨ob,k _ _ (.inl rfl) e⟩
 | xd fs => obtain ⟨mA,⟨od,es,ep,e,c⟩,r⟩ := x; exact ⟨mA,⟨od,es,ep,k _ _ (.inl rfl) e,c⟩,r⟩
 | rng lo hi => obtain ⟨t,u,v,e⟩ := x; exact ⟨t,u,v,k _ _ (.inl rfl) e⟩
 | frz ob u ih => obtain ⟨e,q⟩ := x; exact ⟨k _ _ (.inl rfl) e,ih q⟩
 | tbl ps =>
  have e : h.get? a = some { cls := .none,data := .fields ps } := x
  show h'.get? a = some { cls := .none,data := .fields ps }
  exact k a _ (.inl rfl) e
 | met f y =>
  have e : h.get? a = some (PySem.W.methodObj (.ref f) (.ref y)) := x
  show h'.get? a = some (PySem.W.methodObj (.ref f) (.ref y))
  exact k a _ (.inl rfl) e
 | ext φ => obtain ⟨p,⟨o,e⟩,st⟩ := x; exact ⟨st _ _ p fun o q => k _ _ (.inl rfl) q,⟨o,k _ _ (.inl rfl) e⟩,st⟩
theorem HOk.lt (x : HOk P w H h) (e : H a = some o) : a < h.objs.size := (x a o e).lt
theorem HOk.fresh (x : HOk P w H h) (e : h.objs.size ≤ a) : H a = none := by
 cases q : H a with
 | none => rfl
 | some u => exact absurd (Nat.lt_of_lt_of_le (x.lt q) e) (Nat.lt_irrefl _)
theorem HOk.kept (x : HOk P w H h) (k : ∀ b u,h.get? b = some u → h'.get? b = some u) : HOk P w H h' := fun a o e =>
 (x a o e).stay (fun b u _ q => k b u q) (fun _ q => q) fun _ _ q => q
theorem HOk.laid (x : HOk P w H h) (k : ∀ b u,h.get? b = some u → h'.get? b = some u) (hp : h.objs.size ≤ a) (new : ObjOk P w (upd H a o) h' a o) : HOk P w (upd H a o) h' := fun b u e => by
 have hn := x.fresh hp
 by_cases hb : b = a
 ·subst hb; rw [upd_same] at e; cases e; exact new
 ·rw [upd_ne hb] at e
  exact (x b u e).stay (fun c v _ q => k c v q) (fun c q => by rw [upd_ne (ne_of_none q hn)]; exact q) fun c xs q => by rw [upd_ne (ne_of_none q hn)]; exact q
end
def Rd (H : Hp) (a : Addr) (u : HO) : Prop := H a = some u ∨ ∃ o,H a = some (.frz o u)
theorem Rd.ok {P : Program} {w : World} {H : Hp} {h : Heap} {a : Addr} {u : HO} (r : Rd H a u) (x : HOk P w H h) : ObjOk P w H h a u := by
 rcases r with r | ⟨o,r⟩
 ·exact x a u r
 ·obtain ⟨_,q⟩ := x a _ r
  exact q
def Mut : Option HO → Prop
 | some (.lst _) => True
 | some (.dK _) => True
 | some (.dT _) => True
 | some (.set _ _) => True
 | some (.ins _ _ _) => True
 | some (.ext _) => True
 | _ => False
section
variable {P : Program} {w : World} {H : Hp} {h h' : Heap} {x e : Addr} {o' : HO}
theorem HOk.write (ok : HOk P w H h) (mu : Mut (H x)) (he : e = x ∨ H e = some (.own x)) (k : ∀ b u,b ≠ e → h.get? b = some u → h'.get? b = some u) (heo : ∃ u,h'.get? e = some u)
  (new : ObjOk P w (upd H x o') h' x o') : HOk P w (upd H x o') h' := fun b u q => by
 have nown : ∀ c y,H c = some (.own y) → c ≠ x := fun c y r z => by subst z; rw [r] at mu; exact mu
 have ntup : ∀ c xs,H c = some (.tup xs) → c ≠ x := fun c xs r z => by subst z; rw [r] at mu; exact mu
 by_cases hb : b = x
 ·subst hb; rw [upd_same] at q; cases q; exact new
 ·rw [upd_ne hb] at q
  by_cases hbe : b = e
  ·have q' : H b = some (.own x) := by
    rcases he with z | z
    ·exact absurd (hbe.trans z) hb
    ·rw [hbe]; exact z
   rw [q] at q'; cases q'
   obtain ⟨v,hv⟩ := heo
   exact ⟨v,by rw [hbe]; exact hv⟩
  ·refine (ok b u q).stay (fun c v hc r => k c v ?_ r) (fun c r => by rw [upd_ne (nown c b r)]; exact r) fun c xs r => by rw [upd_ne (ntup c xs r)]; exact r
   rcases hc with rfl | hc
   ·exact hbe
   ·rintro rfl
    rcases he with z | z
    ·exact nown c b hc z
    ·rw [hc] at z; cases z; exact hb rfl
end
structure Un (fs ex : List Addr) (H H' : Hp) (h h' : Heap) : Prop where
 keep : ∀ b o,h.get? b = some o → H b = none → b ∉ fs → b ∉ ex → h'.get? b = some o
 slot : ∀ b o,h.get? b = some o → H b = none → b ∈ fs → b ∉ ex → ∃ sl,h'.get? b = some { o with slots := sl }
 free : ∀ b o,h.get? b = some o → H b = none → b ∉ ex → H' b = none
 there : ∀ b o,h.get? b = some o → b ∉ ex → ∃ o',h'.get? b = some o'
 tups : ∀ b xs,H b = some (.tup xs) → H' b = some (.tup xs)
 frzs : ∀ b o u,H b = some (.frz o u) → H' b = some (.frz o u)
 tbls : ∀ b ps,H b = some (.tbl ps) → ∃ more,H' b = some (.tbl (ps ++ more))
section
variable {fs fs' ex ex' : List Addr} {H H1 H2 : Hp} {h h1 h2 h' : Heap} {a x e : Addr} {o : HO}
theorem Un.any (u : Un fs ex H H1 h h1) {b : Addr} {ob : Obj} (q : h.get? b = some ob) (n : H b = none) (hx : b ∉ ex) : ∃ sl,h1.get? b = some { ob with slots := sl } := by
 by_cases hb : b ∈ fs
 ·exact u.slot b ob q n hb hx
 ·exact ⟨ob.slots,u.keep b ob q n hb hx⟩
theorem Un.kept (k : ∀ b u,h.get? b = some u → h'.get? b = some u) : Un fs ex H H h h' :=
 ⟨fun b ob q _ _ _ => k b ob q,fun b ob q _ _ _ => ⟨ob.slots,k b ob q⟩,fun _ _ _ n _ => n,fun b ob q _ => ⟨ob,k b ob q⟩,fun _ _ q => q,fun _ _ _ q => q,fun _ ps q => ⟨#[],by rw [q]; simp⟩⟩
theorem Un.refl : Un fs ex H H h h := Un.kept fun _ _ q => q
theorem Un.laid (k : ∀ b u,h.get? b = some u → h'.get? b = some u) (hp : h.objs.size ≤ a) (hn : H a = none) : Un fs ex H (upd H a o) h h' where
 keep := fun b u q _ _ _ => k b u q
 slot := fun b u q _ _ _ => ⟨u.slots,k b u q⟩
 free := fun b u q n _ => by rw [upd_ne (Nat.ne_of_lt (Nat.lt_of_lt_of_le (Heap.lt_size q) hp))]; exact n
 there := fun b u q _ => ⟨u,k b u q⟩
 tups := fun b xs q => by rw [upd_ne (ne_of_none q hn)]; exact q
 frzs := fun b u xs q => by rw [upd_ne (ne_of_none q hn)]; exact q
 tbls := fun b ps q => ⟨#[],by rw [upd_ne (ne_of_none q hn),q]; simp⟩
theorem Un.write (mu : Mut (H x)) (he : e = x ∨ H e = some (.own x)) (k : ∀ b u,b ≠ e → h.get? b = some u → h'.get? b = some u) (heo : ∃ u,h'.get? e = some u) : Un fs ex H (upd H x o) h h' := by
 have hx : ∀ b,H b = none → b ≠ x := fun b n z => by subst z; rw [n] at mu; exact mu
 have hb : ∀ b,H b = none → b ≠ e := fun b n z => by
  subst z
  rcases he with r | r
  ·exact hx b n r
  ·rw [n] at r; cases r
 have hm : ∀ b u,H b = some u → ¬ Mut (some u) → b ≠ x := fun b u q nm z => by subst z; rw [q] at mu; exact nm mu
 refine ⟨fun b u q n _ _ => k b u (hb b n) q,fun b u q n _ _ => ⟨u.slots,k b u (hb b n) q⟩,fun b u q n _ => by rw [upd_ne (hx b n)]; exact n,fun b u q _ => ?_,
  fun b xs q => by rw [upd_ne (hm b _ q fun z => z)]; exact q,fun b u xs q => by rw [upd_ne (hm b _ q fun z => z)]; exact q,fun b ps q => ⟨#[],by rw [upd_ne (hm b _ q fun z => z),q]; simp⟩⟩
 by_cases hbe : b = e
 ·subst hbe; exact heo
 ·exact ⟨u,k b u hbe q⟩
end
def trk (h : Heap) (H : Hp) : List Addr := (List.range h.objs.size).filter fun a => (H a).isSome
def hidT (h : Heap) (H : Hp) : Heap := PySem.W.hideAll h (trk h H)
theorem hidT_size (h : Heap) (H : Hp) : (hidT h H).objs.size = h.objs.size := PySem.W.hideAll_size _ _
theorem hidT_get {h : Heap} {H : Hp} {b : Addr} {o : Obj} (e : h.get? b = some o) (n : H b = none) : (hidT h H).get? b = some o :=
 PySem.W.hideAll_get _ e fun hm => by
  have q : (H b).isSome = true := (List.mem_filter.mp hm).2
  rw [n] at q; simp at q
theorem of_hidT {h : Heap} {H : Hp} {b : Addr} {o : Obj} (e : (hidT h H).get? b = some o) : h.get? b = some o ∧ H b = none := by
 have e' : h.get? b = some o := PySem.W.of_hideAll (trk h H) e
 refine ⟨e',?_⟩
 cases q : H b with
 | none => rfl
 | some x =>
  have hm : b ∈ trk h H := List.mem_filter.mpr ⟨List.mem_range.mpr (Heap.lt_size e'),by simp [q]⟩
  have z : (hidT h H).get? b = none := PySem.W.hideAll_none (trk h H) hm
  rw [z] at e; cases e
end L2
namespace L2
open PySem PySem.Spec PyProof.Rows
structure Mod (K : PySem.W.Frag) (mg : Str → Option Value) (base : Heap) : Prop where
 kin : K.In base
 glob : base.Ns mainGlobals mg
 blt : ∃ mb,base.Ns builtinsNs mb ∧ ∀ x : Str,x ≠ "__name__" → mb x = bootBuiltins x
 nolimit : base.NoLimit
structure Cx where
 prog : Program
 w : World
 K : PySem.W.Frag
 mg : Str → Option Value
 base : Heap
 A : Around
 N : List Str
 s_0 : Shared
 H_0 : Hp
 env : Env
 outer : List Env
 stack : List Env
 ex : List Addr
 fn : Str → Bool
 calm : Bool
 pn : List (Addr × Obj)
 xe : Value → Shared → Prop
def frs (l : List Env) : List Addr := l.filterMap (·.frame)
abbrev Cx.fs (X : Cx) : List Addr := frs X.outer
def Vis (sc : Scope) (x : Str) : Prop := sc.names.lookup x = some .local ∨ sc.names.lookup x = some .cell ∨ sc.names.lookup x = some .free
def Loc (sc : Scope) (x : Str) : Prop := sc.names.lookup x = some .local ∨ sc.names.lookup x = some .cell
def Look (env : Env) (h : Heap) (m : Str → Option Value) (x : Str) (u : Value) : Prop :=
 (env.kindOf x = some .local ∧ m x = some u) ∨ ((env.kindOf x = some .cell ∨ env.kindOf x = some .free) ∧ ∃ c,env.cells.lookup x = some c ∧ h.IsCell c (some u))
structure Cx.Ok (X : Cx) : Prop where
 mod : Mod X.K X.mg X.base
 kind : X.env.scope.kind = .function
 glob : X.env.globals = mainGlobals
 blt : X.env.builtins = builtinsNs
 above : X.s_0.heap.objs.size ≤ X.env.locals
 inj : ∀ x y c,X.env.cells.lookup x = some c → X.env.cells.lookup y = some c → x = y
 has : ∀ x,(X.env.kindOf x = some .cell ∨ X.env.kindOf x = some .free) → ∃ c,X.env.cells.lookup x = some c
 cab : ∀ x c,X.fn x = true → X.env.cells.lookup x = some c → X.s_0.heap.objs.size ≤ c
 hd : X.calm = true → X.A.handled = none
 frames : X.A.frames = some X.stack
 stk : X.stack = X.outer ∨ (X.stack = X.env :: X.outer ∧ X.env.frame = some X.env.locals)
 exf : ∀ b ∈ X.ex,b ≠ X.env.locals ∧ ∀ x c,X.env.cells.lookup x = some c → c ≠ b
 bs : ∀ b o,X.base.get? b = some o → X.s_0.heap.get? b = some o ∧ X.H_0 b = none
 bsz : X.base.objs.size ≤ X.s_0.heap.objs.size
 noex : ∀ b o,X.base.get? b = some o → b ∉ X.ex
 exfs : ∀ b ∈ X.ex,b ∉ X.fs
 funs : X.s_0.heap.FunFrames X.base X.outer
 frf : ∀ b ∈ X.fs,X.H_0 b = none
structure Inv (X : Cx) (pins : List (Addr × Obj)) (σ : List (Option V)) (H : Hp) (s : Shared) : Prop where
 ok : X.Ok
 os : s.os = X.s_0.os
 bare : AllBare s.gens
 base : Un X.fs X.ex X.H_0 H X.s_0.heap s.heap
 loc : ∃ m,s.heap.Ns X.env.locals m ∧ ∀ (i : Nat) (x : Str) (v : V),X.N[i]? = some x → σ[i]? = some (some v) → Vis X.env.scope x → ∃ u,RelV v u ∧ Look X.env s.heap m x u
 cell : ∀ x c,X.env.cells.lookup x = some c → ∃ v,s.heap.IsCell c v
 free : H X.env.locals = none
 freeC : ∀ x c,X.env.cells.lookup x = some c → H c = none
 pin : ∀ p ∈ X.pn ++ pins,s.heap.get? p.1 = some p.2 ∧ H p.1 = none ∧ p.1 ≠ X.env.locals ∧ p.1 ∉ X.fs ∧ ∀ v,p.2.data ≠ .cell v
 hok : HOk X.prog X.w H s.heap
 len : σ.length = X.N.length
section
variable {X : Cx} {pins : List (Addr × Obj)} {σ : List (Option V)} {H H' : Hp} {s : Shared} {h' : Heap}
theorem Cx.Ok.nofr (ok : X.Ok) {b : Addr} {o : Obj} (e : X.base.get? b = some o) : b ∉ X.fs := fun hb => by
 have := (ok.funs.mem hb).1
 rw [e] at this; cases this
theorem Inv.bs (I : Inv X pins σ H s) : ∀ b o,X.base.get? b = some o → s.heap.get? b = some o ∧ H b = none := fun b o e =>
 ⟨I.base.keep b o (I.ok.bs b o e).1 (I.ok.bs b o e).2 (I.ok.nofr e) (I.ok.noex b o e),I.base.free b o (I.ok.bs b o e).1 (I.ok.bs b o e).2 (I.ok.noex b o e)⟩
theorem Inv.bk (I : Inv X pins σ H s) : ∀ b o,X.base.get? b = some o → s.heap.get? b = some o := fun b o e => (I.bs b o e).1
theorem Inv.mod (I : Inv X pins σ H s) : Mod X.K X.mg X.base := I.ok.mod
theorem Inv.kIn (I : Inv X pins σ H s) : X.K.In s.heap := I.ok.mod.kin.keeps I.bk
theorem Inv.fr (I : Inv X pins σ H s) : ∃ m,Fr X.base X.env.locals s.heap m :=
 let ⟨m,hn,_⟩ := I.loc
 ⟨m,hn,I.bk,Nat.le_trans I.ok.bsz I.ok.above⟩
theorem Inv.lt (I : Inv X pins σ H s) : X.env.locals < s.heap.objs.size := let ⟨_,hn,_⟩ := I.loc; hn.lt
theorem Inv.sz (I : Inv X pins σ H s) : X.s_0.heap.objs.size ≤ s.heap.objs.size := Nat.le_trans I.ok.above (Nat.le_of_lt I.lt)
theorem Inv.nofs (I : Inv X pins σ H s) {a : Addr} (h : s.heap.objs.size ≤ a) : a ∉ X.fs := fun hb => by
 obtain ⟨_,o,ho,_⟩ := I.ok.funs.mem hb
 exact absurd (Nat.lt_of_lt_of_le (Heap.lt_size ho) (Nat.le_trans I.sz h)) (Nat.lt_irrefl _)
theorem Inv.cne (I : Inv X pins σ H s) : ∀ x c,X.env.cells.lookup x = some c → c ≠ X.env.locals := fun x c e z => by
 obtain ⟨v,o,ho,hd⟩ := I.cell x c e
 obtain ⟨m,⟨o',es,ep,ho',hd',_⟩,_⟩ := I.loc
 rw [z,ho'] at ho; cases ho; rw [hd'] at hd; cases hd
theorem Inv.funs (I : Inv X pins σ H s) : s.heap.FunFrames X.base X.outer := by
 have all : ∀ (l : List Env),(∀ b ∈ frs l,b ∈ X.fs) → X.s_0.heap.FunFrames X.base l → s.heap.FunFrames X.base l := by
  intro l
  induction l with
  | nil => intro _ _; trivial
  | cons env r ih =>
   intro hs hl
   obtain ⟨hk,⟨L,o,hf,hn,ho,hd⟩,hr⟩ := hl
   have hL : L ∈ X.fs := hs L (by unfold frs; rw [List.filterMap_cons,hf]; exact List.mem_cons_self)
   obtain ⟨sl,e⟩ := I.base.slot L o ho (I.ok.frf L hL) hL fun z => I.ok.exfs L z hL
   exact ⟨hk,⟨L,_,hf,hn,e,hd⟩,ih (fun b hb => hs b (by unfold frs; rw [List.filterMap_cons,hf]; exact List.mem_cons_of_mem _ hb)) hr⟩
 exact all X.outer (fun _ hb => hb) I.ok.funs
theorem Inv.stack (I : Inv X pins σ H s) : s.heap.FunFrames X.base X.stack := by
 rcases I.ok.stk with e | ⟨e,hf⟩
 ·rw [e]; exact I.funs
 ·rw [e]
  obtain ⟨m,hn,_⟩ := I.loc
  refine .cons (by rw [I.ok.kind]; decide) hf hn ?_ I.funs
  exact Heap.get?_none_of_le (Nat.le_trans I.ok.bsz I.ok.above)
theorem Inv.stkSub (I : Inv X pins σ H s) : ∀ b ∈ frs X.stack,b ∈ X.env.locals :: X.fs := fun b hb => by
 rcases I.ok.stk with e | ⟨e,hf⟩
 ·rw [e] at hb; exact List.mem_cons_of_mem _ hb
 ·rw [e] at hb
  unfold frs at hb
  rw [List.filterMap_cons,hf] at hb
  exact hb
theorem Inv.stkFree (I : Inv X pins σ H s) : ∀ b ∈ frs X.stack,H b = none := fun b hb => by
 rcases List.mem_cons.mp (I.stkSub b hb) with e | hb
 ·rw [e]; exact I.free
 ·obtain ⟨_,o,ho,_⟩ := I.ok.funs.mem hb
  exact I.base.free b o ho (I.ok.frf b hb) fun z => I.ok.exfs b z hb
theorem Inv.step {g' : Array GenState} {t' : Nat} {d' : Drawn} {ch : List Addr} (I : Inv X pins σ H s)
  (hch : ∀ b ∈ ch,(b ∈ X.ex ∨ X.s_0.heap.objs.size ≤ b) ∧ b ≠ X.env.locals ∧ (∀ x c,X.env.cells.lookup x = some c → c ≠ b) ∧ ∀ p ∈ X.pn ++ pins,p.1 ≠ b)
  (keep : ∀ b o,b ≠ X.env.locals → b ∉ X.fs → b ∉ ch → s.heap.get? b = some o → H b = none → h'.get? b = some o)
  (slot : ∀ b o,b ≠ X.env.locals → b ∈ X.fs → b ∉ ch → s.heap.get? b = some o → H b = none → ∃ sl,h'.get? b = some { o with slots := sl }) (free : ∀ b o,b ∉ ch → s.heap.get? b = some o → H b = none → H' b = none)
  (there : ∀ b o,b ∉ ch → s.heap.get? b = some o → ∃ o',h'.get? b = some o')
  (tups : ∀ b xs,H b = some (.tup xs) → H' b = some (.tup xs)) (frzs : ∀ b o u,H b = some (.frz o u) → H' b = some (.frz o u)) (tbls : ∀ b ps,H b = some (.tbl ps) → ∃ more,H' b = some (.tbl (ps ++ more)))
  (ns : ∀ m,s.heap.Ns X.env.locals m → h'.Ns X.env.locals m) (hok : HOk X.prog X.w H' h') (hg : AllBare g') :
  Inv X pins σ H' { s with heap := h',gens := g',drawn := d',toks := t' } := by
 have neL : ∀ b o,X.s_0.heap.get? b = some o → b ≠ X.env.locals := fun b o e => Nat.ne_of_lt (Nat.lt_of_lt_of_le (Heap.lt_size e) I.ok.above)
 have neC : ∀ b o,X.s_0.heap.get? b = some o → b ∉ X.ex → b ∉ ch := fun b o e hx hb => by
  rcases (hch b hb).1 with z | z
  ·exact hx z
  ·exact absurd (Nat.lt_of_lt_of_le (Heap.lt_size e) z) (Nat.lt_irrefl _)
 have cellK : ∀ x c,X.env.cells.lookup x = some c → ∀ v,s.heap.IsCell c v → h'.IsCell c v := fun x c e v ⟨o,ho,hd⟩ => by
  have nch : c ∉ ch := fun z => (hch c z).2.2.1 x c e rfl
  by_cases hc : c ∈ X.fs
  ·obtain ⟨sl,q⟩ := slot c o (I.cne x c e) hc nch ho (I.freeC x c e)
   exact ⟨_,q,hd⟩
  ·exact ⟨o,keep c o (I.cne x c e) hc nch ho (I.freeC x c e),hd⟩
 refine ⟨I.ok,I.os,hg,⟨fun b o e n hb hx => ?_,fun b o e n hb hx => ?_,fun b o e n hx => ?_,fun b o e hx => ?_,fun b xs e => tups b xs (I.base.tups b xs e),fun b o xs e => frzs b o xs (I.base.frzs b o xs e),fun b ps e => ?_⟩,?_,fun x c e => ?_,?_,fun x c e => ?_,fun p hp => ?_,hok,I.len⟩
 ·exact keep b o (neL b o e) hb (neC b o e hx) (I.base.keep b o e n hb hx) (I.base.free b o e n hx)
 ·obtain ⟨sl,e1⟩ := I.base.slot b o e n hb hx
  obtain ⟨sl',e2⟩ := slot b _ (neL b o e) hb (neC b o e hx) e1 (I.base.free b o e n hx)
  exact ⟨sl',e2⟩
 ·obtain ⟨o',e1⟩ := I.base.there b o e hx
  exact free b o' (neC b o e hx) e1 (I.base.free b o e n hx)
 ·obtain ⟨o',e1⟩ := I.base.there b o e hx
  exact there b o' (neC b o e hx) e1
 ·obtain ⟨m1,e1⟩ := I.base.tbls b ps e
  obtain ⟨m2,e2⟩ := tbls b _ e1
  exact ⟨m1 ++ m2,by rw [e2,Array.append_assoc]⟩
 ·obtain ⟨m,hn,hl⟩ := I.loc
  refine ⟨m,ns m hn,fun i x v e1 e2 e3 => ?_⟩
  obtain ⟨u,r,l⟩ := hl i x v e1 e2 e3
  refine ⟨u,r,?_⟩
  rcases l with l | ⟨k,c,e,z⟩
  ·exact .inl l
  ·exact .inr ⟨k,c,e,cellK x c e _ z⟩
 ·obtain ⟨v,z⟩ := I.cell x c e
  exact ⟨v,cellK x c e v z⟩
 ·obtain ⟨m,⟨o,_,_,ho,_⟩,_⟩ := I.loc
  exact free _ o (fun z => (hch _ z).2.1 rfl) ho I.free
 ·obtain ⟨v,o,ho,hd⟩ := I.cell x c e
  exact free c o (fun z => (hch c z).2.2.1 x c e rfl) ho (I.freeC x c e)
 ·obtain ⟨e,n,ne,nf,d⟩ := I.pin p hp
  have nch : p.1 ∉ ch := fun z => (hch p.1 z).2.2.2 p hp rfl
  exact ⟨keep p.1 p.2 ne nf nch e n,free p.1 p.2 nch e n,ne,nf,d⟩
theorem Inv.un {t' : Nat} (I : Inv X pins σ H s) (u : Un X.fs [] H H' s.heap h') (hok : HOk X.prog X.w H' h') : Inv X pins σ H' { s with heap := h',toks := t' } := by
 obtain ⟨m,⟨o,es,ep,ho,r⟩,_⟩ := id I.loc
 obtain ⟨sl,hL⟩ := u.any ho I.free (by simp)
 exact I.step (g' := s.gens) (d' := s.drawn) (ch := []) (fun _ z => nomatch z) (fun b o _ hb _ e n => u.keep b o e n hb (by simp)) (fun b o _ hb _ e n => u.slot b o e n hb (by simp)) (fun b o _ e n => u.free b o e n (by simp)) (fun b o _ e => u.there b o e (by simp)) u.tups u.frzs u.tbls (fun m' hm => by
  obtain ⟨o',es',ep',ho',r'⟩ := hm
  rw [ho] at ho'; cases ho'
  exact ⟨_,es',ep',hL,r'⟩) hok I.bare
theorem Inv.call {g' : Array GenState} {t' : Nat} {d' : Drawn} {ch : List Addr} (I : Inv X pins σ H s) (u : Un (frs X.stack) ch H H' s.heap h') (hok : HOk X.prog X.w H' h') (hg : AllBare g')
  (hch : ∀ b ∈ ch,(b ∈ X.ex ∨ X.s_0.heap.objs.size ≤ b) ∧ b ≠ X.env.locals ∧ (∀ x c,X.env.cells.lookup x = some c → c ≠ b) ∧ ∀ p ∈ X.pn ++ pins,p.1 ≠ b) :
  Inv X pins σ H' { s with heap := h',gens := g',drawn := d',toks := t' } := by
 obtain ⟨m,⟨o,es,ep,ho,r⟩,_⟩ := id I.loc
 obtain ⟨sl,hL⟩ := u.any ho I.free fun z => (hch _ z).2.1 rfl
 exact I.step (ch := ch) hch (fun b o hL hb hc e n => u.keep b o e n (fun z => (List.mem_cons.mp (I.stkSub b z)).elim hL hb) hc) (fun b o _ _ hc e n => u.any e n hc) (fun b o hc e n => u.free b o e n hc) (fun b o hc e => u.there b o e hc) u.tups u.frzs u.tbls (fun m' hm => by
  obtain ⟨o',es',ep',ho',r'⟩ := hm
  rw [ho] at ho'; cases ho'
  exact ⟨_,es',ep',hL,r'⟩) hok hg
theorem Inv.turned {t' : Nat} {it : Addr} (I : Inv X pins σ H s) (k : ∀ b o,b ≠ it → s.heap.get? b = some o → h'.get? b = some o) (hn : H it = none) (hL : it ≠ X.env.locals)
  (h1 : it ∈ X.ex ∨ X.s_0.heap.objs.size ≤ it) (h2 : ∀ x c,X.env.cells.lookup x = some c → c ≠ it) (h3 : ∀ p ∈ X.pn ++ pins,p.1 ≠ it) : Inv X pins σ H { s with heap := h',toks := t' } := by
 have nit : ∀ b u,H b = some u → b ≠ it := fun b u e z => by rw [z,hn] at e; cases e
 refine I.step (g' := s.gens) (d' := s.drawn) (ch := [it]) (fun b hb => ?_) (fun b o _ _ hc e _ => k b o (fun z => hc (by simp [z])) e) (fun b o _ _ hc e _ => ⟨o.slots,k b o (fun z => hc (by simp [z])) e⟩) (fun _ _ _ _ n => n)
  (fun b o hc e => ⟨o,k b o (fun z => hc (by simp [z])) e⟩) (fun _ _ e => e) (fun _ _ _ e => e) (fun b ps e => ⟨#[],by rw [e]; simp⟩) (fun m hm => ?_) (fun b u e => ?_) I.bare
 ·have e : b = it := by simpa using hb
  subst e
  exact ⟨h1,hL,h2,h3⟩
 ·obtain ⟨o,es,ep,ho,r⟩ := hm
  exact ⟨o,es,ep,k _ o (Ne.symm hL) ho,r⟩
 ·refine (I.hok b u e).stay (fun c v hc q => k c v ?_ q) (fun _ q => q) fun _ _ q => q
  rcases hc with z | z
  ·rw [z]; exact nit b u e
  ·exact nit c _ z
theorem Inv.tok (I : Inv X pins σ H s) (t : Nat) : Inv X pins σ H { s with toks := t } := I.un (h' := s.heap) (t' := t) Un.refl I.hok
theorem Inv.kept {t' : Nat} (I : Inv X pins σ H s) (k : ∀ b u,s.heap.get? b = some u → h'.get? b = some u) : Inv X pins σ H { s with heap := h',toks := t' } := I.un (Un.kept k) (I.hok.kept k)
theorem Inv.laid {a : Addr} {o : HO} {t' : Nat} (I : Inv X pins σ H s) (k : ∀ b u,s.heap.get? b = some u → h'.get? b = some u) (hp : s.heap.objs.size ≤ a) (new : ObjOk X.prog X.w (upd H a o) h' a o) :
  Inv X pins σ (upd H a o) { s with heap := h',toks := t' } := I.un (Un.laid k hp (I.hok.fresh hp)) (I.hok.laid k hp new)
theorem Inv.write {x e : Addr} {o : HO} {t' : Nat} (I : Inv X pins σ H s) (mu : Mut (H x)) (he : e = x ∨ H e = some (.own x)) (k : ∀ b u,b ≠ e → s.heap.get? b = some u → h'.get? b = some u) (heo : ∃ u,h'.get? e = some u)
  (new : ObjOk X.prog X.w (upd H x o) h' x o) : Inv X pins σ (upd H x o) { s with heap := h',toks := t' } := I.un (Un.write mu he k heo) (I.hok.write mu he k heo new)
theorem Inv.weak {σ' : List (Option V)} (I : Inv X pins σ H s) (hl : σ'.length = σ.length) (w : ∀ (i : Nat) v,σ'[i]? = some (some v) → σ[i]? = some (some v)) : Inv X pins σ' H s :=
 ⟨I.ok,I.os,I.bare,I.base,let ⟨m,hn,hl'⟩ := I.loc; ⟨m,hn,fun i x v e1 e2 e3 => hl' i x v e1 (w i v e2) e3⟩,I.cell,I.free,I.freeC,I.pin,I.hok,hl.trans I.len⟩
theorem Inv.pins_of {pins' : List (Addr × Obj)} (I : Inv X pins σ H s) (h : ∀ p ∈ pins',s.heap.get? p.1 = some p.2 ∧ H p.1 = none ∧ p.1 ≠ X.env.locals ∧ p.1 ∉ X.fs ∧ ∀ v,p.2.data ≠ .cell v) : Inv X pins' σ H s :=
 ⟨I.ok,I.os,I.bare,I.base,I.loc,I.cell,I.free,I.freeC,fun p hp => (List.mem_append.mp hp).elim (fun z => I.pin p (List.mem_append_left _ z)) (h p),I.hok,I.len⟩
theorem nodup_ix {N : List Str} (hN : N.Nodup) {i j : Nat} {x : Str} (a : N[i]? = some x) (b : N[j]? = some x) : i = j := by
 obtain ⟨h1,e1⟩ := List.getElem?_eq_some_iff.mp a
 obtain ⟨h2,e2⟩ := List.getElem?_eq_some_iff.mp b
 exact (List.getElem_inj hN).mp (e1.trans e2.symm)
theorem store_ok2 {M : Model} {A : Around} {E : Value → Shared → Prop} {i : Nat} {x : Str} {v : V} {u : Value} {Q : Unit → Shared → Prop} (I : Inv X pins σ H s) (hN : X.N.Nodup) (hi : X.N[i]? = some x) (hx : Loc X.env.scope x) (r : RelV v u)
  (h : ∀ s',Inv X pins (σ.set i (some v)) H s' → (∃ a,Heap.SameBut a s.heap s'.heap ∧ (a = X.env.locals ∨ X.env.cells.lookup x = some a)) → Q () s') (hf : X.fn x = true ∨ X.env.scope.names.lookup x = some .local := by first | exact .inl rfl | exact .inr rfl | assumption) : wpAny M A (storeName X.env x u) Q E s := by
 obtain ⟨m,hn,hl⟩ := id I.loc
 have hcls : (X.env.scope.kind == .class || (X.env.scope.kind == .module && X.env.locals != X.env.globals)) = false := by rw [I.ok.kind]; rfl
 have hiσ : i < σ.length := by rw [I.len]; exact (List.getElem?_eq_some_iff.mp hi).1
 have cne := I.cne
 have tracked : ∀ {a : Addr} {h' : Heap},(∃ o,s.heap.get? a = some o ∧ H a = none) → Heap.SameBut a s.heap h' → HOk X.prog X.w H h' := fun {a h'} ha hs b ob e => by
  obtain ⟨_,_,hfree⟩ := ha
  refine (I.hok b ob e).stay (fun c w' hc q => (hs.2 c ?_).trans q) (fun _ q => q) fun _ _ q => q
  rintro rfl
  rcases hc with rfl | hc
  ·rw [hfree] at e; cases e
  ·rw [hfree] at hc; cases hc
 rcases hx with hk | hk
 ·refine wpAny_storeName_local hk hn (fun h' hn' hs => ?_) hcls
  obtain ⟨oL,_,_,hoL,_⟩ := id hn
  refine h _ ⟨I.ok,I.os,I.bare,⟨fun b o e n hb hx => ?_,fun b o e n hb hx => ?_,I.base.free,fun b o e hx => ?_,I.base.tups,I.base.frzs,I.base.tbls⟩,⟨_,hn',fun j y v' e1 e2 e3 => ?_⟩,fun y c e => ?_,I.free,I.freeC,fun p hp => ?_,tracked ⟨oL,hoL,I.free⟩ hs,by simpa using I.len⟩ ⟨_,hs,.inl rfl⟩
  ·exact (hs.2 b (Nat.ne_of_lt (Nat.lt_of_lt_of_le (Heap.lt_size e) I.ok.above))).trans (I.base.keep b o e n hb hx)
  ·obtain ⟨sl,e1⟩ := I.base.slot b o e n hb hx
   exact ⟨sl,(hs.2 b (Nat.ne_of_lt (Nat.lt_of_lt_of_le (Heap.lt_size e) I.ok.above))).trans e1⟩
  ·obtain ⟨o',e1⟩ := I.base.there b o e hx
   exact ⟨o',(hs.2 b (Nat.ne_of_lt (Nat.lt_of_lt_of_le (Heap.lt_size e) I.ok.above))).trans e1⟩
  ·by_cases hj : j = i
   ·subst hj
    rw [hi] at e1; cases e1
    rw [List.getElem?_set_self hiσ] at e2
    cases e2
    exact ⟨u,r,.inl ⟨hk,by simp⟩⟩
   ·rw [List.getElem?_set_ne (Ne.symm hj)] at e2
    obtain ⟨u',r',q⟩ := hl j y v' e1 e2 e3
    refine ⟨u',r',?_⟩
    rcases q with ⟨k,e⟩ | ⟨k,c,e,z⟩
    ·refine .inl ⟨k,?_⟩
     have : y ≠ x := fun e => hj (nodup_ix hN e1 (e ▸ hi))
     simp [this,e]
    ·exact .inr ⟨k,c,e,z.sameBut hs (cne y c e)⟩
  ·obtain ⟨w',z⟩ := I.cell y c e
   exact ⟨w',z.sameBut hs (cne y c e)⟩
  ·obtain ⟨e,n,ne,nf,d⟩ := I.pin p hp
   exact ⟨(hs.2 p.1 ne).trans e,n,ne,nf,d⟩
 ·have hfn : X.fn x = true := by
   rcases hf with z | z
   ·exact z
   ·rw [z] at hk; cases hk
  obtain ⟨c,hc⟩ := I.ok.has x (.inl hk)
  obtain ⟨w',z⟩ := I.cell x c hc
  refine wpAny_storeName_cell I.ok.kind hk hc z (fun h' hc' hs => ?_)
  obtain ⟨oc,hoc,hocd⟩ := id z
  refine h { s with heap := h' } ⟨I.ok,I.os,I.bare,⟨fun b o e n hb hx => ?_,fun b o e n hb hx => ?_,I.base.free,fun b o e hx => ?_,I.base.tups,I.base.frzs,I.base.tbls⟩,⟨m,hn.sameBut hs (Ne.symm (cne x c hc)),fun j y v' e1 e2 e3 => ?_⟩,fun y c' e => ?_,I.free,I.freeC,fun p hp => ?_,tracked ⟨oc,hoc,I.freeC x c hc⟩ hs,by simpa using I.len⟩ ⟨c,hs,.inr hc⟩
  ·exact (hs.2 b (Nat.ne_of_lt (Nat.lt_of_lt_of_le (Heap.lt_size e) (I.ok.cab x c hfn hc)))).trans (I.base.keep b o e n hb hx)
  ·obtain ⟨sl,e1⟩ := I.base.slot b o e n hb hx
   exact ⟨sl,(hs.2 b (Nat.ne_of_lt (Nat.lt_of_lt_of_le (Heap.lt_size e) (I.ok.cab x c hfn hc)))).trans e1⟩
  ·obtain ⟨o',e1⟩ := I.base.there b o e hx
   exact ⟨o',(hs.2 b (Nat.ne_of_lt (Nat.lt_of_lt_of_le (Heap.lt_size e) (I.ok.cab x c hfn hc)))).trans e1⟩
  ·by_cases hj : j = i
   ·subst hj
    rw [hi] at e1; cases e1
    rw [List.getElem?_set_self hiσ] at e2
    cases e2
    exact ⟨u,r,.inr ⟨.inl hk,c,hc,hc'⟩⟩
   ·rw [List.getElem?_set_ne (Ne.symm hj)] at e2
    obtain ⟨u',r',q⟩ := hl j y v' e1 e2 e3
    refine ⟨u',r',?_⟩
    rcases q with q | ⟨k,c',e,z'⟩
    ·exact .inl q
    ·refine .inr ⟨k,c',e,z'.sameBut hs ?_⟩
     rintro rfl
     exact hj (nodup_ix hN e1 (I.ok.inj _ _ _ e hc ▸ hi))
  ·by_cases hcc : c' = c
   ·subst hcc; exact ⟨_,hc'⟩
   ·obtain ⟨w2,z2⟩ := I.cell y c' e
    exact ⟨w2,z2.sameBut hs hcc⟩
  ·obtain ⟨e,n,ne,nf,d⟩ := I.pin p hp
   refine ⟨(hs.2 p.1 ?_).trans e,n,ne,nf,d⟩
   intro q
   rw [q,hoc] at e
   have q' : oc = p.2 := Option.some.inj e
   exact d w' (by rw [← q']; exact hocd)
theorem store_ok {M : Model} {A : Around} {E : Value → Shared → Prop} {i : Nat} {x : Str} {v : V} {u : Value} {Q : Unit → Shared → Prop} (I : Inv X pins σ H s) (hN : X.N.Nodup) (hi : X.N[i]? = some x) (hx : Loc X.env.scope x) (r : RelV v u)
  (h : ∀ s',Inv X pins (σ.set i (some v)) H s' → Q () s') (hf : X.fn x = true ∨ X.env.scope.names.lookup x = some .local := by first | exact .inl rfl | exact .inr rfl | assumption) : wpAny M A (storeName X.env x u) Q E s :=
 store_ok2 I hN hi hx r (fun s' I' _ => h s' I') hf
theorem Inv.call' {s' : Shared} {ch : List Addr} (I : Inv X pins σ H s) (ho : s'.os = s.os) (u : Un (frs X.stack) ch H H' s.heap s'.heap) (hok : HOk X.prog X.w H' s'.heap) (hg : AllBare s'.gens)
  (hch : ∀ b ∈ ch,(b ∈ X.ex ∨ X.s_0.heap.objs.size ≤ b) ∧ b ≠ X.env.locals ∧ (∀ x c,X.env.cells.lookup x = some c → c ≠ b) ∧ ∀ p ∈ X.pn ++ pins,p.1 ≠ b) : Inv X pins σ H' s' := by
 obtain ⟨h',g',d',t',o'⟩ := s'
 have e : o' = s.os := ho
 subst e
 exact I.call (g' := g') (t' := t') (d' := d') u hok hg hch
end
abbrev XK := Value → Option Addr → Hp → Prop
abbrev St := List (Option V)
abbrev VK := V → Hp → Prop
abbrev TE := St → Hp → VK → Prop
abbrev TT := St → Hp → (Bool → Hp → Prop) → Prop
abbrev TA := St → Hp → (List V → Hp → Prop) → Prop
structure Ends where
 nx : St → Hp → Prop
 rt : VK
 bk : St → Hp → Prop := fun _ _ => False
 ct : St → Hp → Prop := fun _ _ => False
abbrev TS := Ends → St → Hp → Prop
def EP (X : Cx) (pins : List (Addr × Obj)) (σ : St) (Q : VK) (u : Value) (s' : Shared) : Prop := ∃ v H',Inv X pins σ H' s' ∧ RelV v u ∧ Q v H'
def TP (X : Cx) (pins : List (Addr × Obj)) (σ : St) (Q : Bool → Hp → Prop) (b : Bool) (s' : Shared) : Prop := ∃ H',Inv X pins σ H' s' ∧ Q b H'
def AP (X : Cx) (pins : List (Addr × Obj)) (σ : St) (Q : List V → Hp → Prop) (us : List Value) (s' : Shared) : Prop := ∃ vs H',Inv X pins σ H' s' ∧ Vals vs us ∧ Q vs H'
def SP (X : Cx) (pins : List (Addr × Obj)) (D : Ends) (f : Flow) (s' : Shared) : Prop :=
 match f with
 | .next => ∃ σ' H',Inv X pins σ' H' s' ∧ D.nx σ' H'
 | .brk => ∃ σ' H',Inv X pins σ' H' s' ∧ D.bk σ' H'
 | .cont => ∃ σ' H',Inv X pins σ' H' s' ∧ D.ct σ' H'
 | .ret u => ∃ v σ' H',Inv X pins σ' H' s' ∧ RelV v u ∧ D.rt v H'
def PE (X : Cx) (e : Expr) (t : TE) : Prop :=
 ∀ (pins : List (Addr × Obj)) (s : Shared) (σ : St) (H : Hp) (Q : VK),Inv X pins σ H s → t σ H Q → wpAny (model X.prog X.w) X.A (eval e X.env) (EP X pins σ Q) X.xe s
def PT (X : Cx) (e : Expr) (t : TT) : Prop :=
 ∀ (pins : List (Addr × Obj)) (s : Shared) (σ : St) (H : Hp) (Q : Bool → Hp → Prop),Inv X pins σ H s → t σ H Q → wpAny (model X.prog X.w) X.A (isTrue e X.env (eval e X.env)) (TP X pins σ Q) X.xe s
def PW (X : Cx) (e : Expr) (t : TT) : Prop :=
 ∀ (whole : Sem Value) (pins : List (Addr × Obj)) (s : Shared) (σ : St) (H : Hp) (Q : Bool → Hp → Prop),Inv X pins σ H s → t σ H Q → wpAny (model X.prog X.w) X.A (isTrue e X.env whole) (TP X pins σ Q) X.xe s
theorem PW.pt {X : Cx} {e : Expr} {t : TT} (h : PW X e t) : PT X e t := h _
def PA (X : Cx) (es : List Expr) (t : TA) : Prop :=
 ∀ (pos : Pos) (pins : List (Addr × Obj)) (s : Shared) (σ : St) (H : Hp) (Q : List V → Hp → Prop),Inv X pins σ H s → t σ H Q → wpAny (model X.prog X.w) X.A (spliced (backTo pos (starEach es X.env))) (AP X pins σ Q) X.xe s
def PS (X : Cx) (st : Stmt) (t : TS) : Prop :=
 ∀ (pins : List (Addr × Obj)) (s : Shared) (σ : St) (H : Hp) (D : Ends),Inv X pins σ H s → t D σ H → wpAny (model X.prog X.w) X.A (exec st X.env) (SP X pins D) X.xe s
def PSs (X : Cx) (st : List Stmt) (t : TS) : Prop :=
 ∀ (pins : List (Addr × Obj)) (s : Shared) (σ : St) (H : Hp) (D : Ends),Inv X pins σ H s → t D σ H → wpAny (model X.prog X.w) X.A (execs st X.env) (SP X pins D) X.xe s
theorem thn {α : Type} {t : Sem α} {Q Q' : α → Shared → Prop} {M : Model} {A : Around} {E : Value → Shared → Prop} {s : Shared} (h : wpAny M A t Q E s) (hQ : ∀ a s,Q a s → Q' a s) : wpAny M A t Q' E s := wpAny_mono h hQ fun _ _ x => x
end L2
namespace L2
open PySem PySem.Spec PyProof.Rows
section
variable {X : Cx}
theorem bin {a b : Expr} {ta tb : TE} (ha : PE X a ta) (hb : PE X b tb) {pins : List (Addr × Obj)} {s : Shared} {σ : St} {H : Hp} {R : V → V → Hp → Prop} (I : Inv X pins σ H s) (h : ta σ H fun x H1 => tb σ H1 fun y H2 => R x y H2)
  {α : Type} {Q : α → Shared → Prop} {f : Value → Value → Sem α}
  (hf : ∀ v u s2 x y H2,Inv X pins σ H2 s2 → RelV x v → RelV y u → R x y H2 → wpAny (model X.prog X.w) X.A (f v u) Q X.xe s2) :
  wpAny (model X.prog X.w) X.A (eval a X.env) (fun v s₁ => wpAny (model X.prog X.w) X.A (eval b X.env) (fun u s₂ => wpAny (model X.prog X.w) X.A (f v u) Q X.xe s₂) X.xe s₁) X.xe s := by
 refine thn (ha pins s σ H _ I h) fun v s1 ⟨x,H1,I1,r1,q1⟩ => ?_
 refine thn (hb pins s1 σ H1 _ I1 q1) fun u s2 ⟨y,H2,I2,r2,q2⟩ => ?_
 exact hf v u s2 x y H2 I2 r1 r2 q2
def tVar (i : Nat) : TE := fun σ H Q => ∃ v,σ[i]? = some (some v) ∧ Q v H
def tC (v : V) : TE := fun _ H Q => Q v H
theorem pe_var {i : Nat} {x : Str} {pos : Pos} (hN : X.N[i]? = some x) (hv : Vis X.env.scope x) (hd : (x == ("__debug__" : Str)) = false := by decide) (hcd : (x == ("__classdict__" : Str)) = false := by decide) : PE X (.Name x pos) (tVar i) := by
 intro pins s σ H Q I h
 obtain ⟨v,e,h⟩ := h
 obtain ⟨m,hn,hl⟩ := I.loc
 obtain ⟨u,r,l⟩ := hl i x v hN e hv
 have fin : EP X pins σ Q u s := ⟨v,H,I,r,h⟩
 rcases l with ⟨hk,hm⟩ | ⟨hk,c,hc,hcell⟩
 ·exact wpAny_Name (wpAny_loadName_local I.ok.kind hk hn hm fin) hd
 ·rcases hk with hk | hk
  ·exact wpAny_Name (wpAny_loadName_cell I.ok.kind hk hc hcell fin) hd
  ·exact wpAny_Name (wpAny_loadName_free I.ok.kind hk hc hcell fin hcd) hd
theorem pe_int {i j pos} : PE X (.Constant (.int i) j pos) (tC (.int i)) := fun _ _ _ H _ I h => wpAny_Constant_int ⟨.int i,H,I.tok _,⟨_,rfl⟩,h⟩
theorem pe_non {j pos} : PE X (.Constant .none j pos) (tC .non) := fun _ _ _ H _ I h => Constant_none ⟨.non,H,I,rfl,h⟩
def Gl (X : Cx) (x : Str) : Prop := X.env.kindOf x = some .globalImplicit
theorem ld_glob {E : Value → Shared → Prop} {pins : List (Addr × Obj)} {s : Shared} {σ : St} {H : Hp} {x : Str} {u : Value} {pos : Pos} {Q : Value → Shared → Prop} (I : Inv X pins σ H s) (hg : Gl X x) (hm : X.mg x = some u) (h : Q u s)
  (hd : (x == ("__debug__" : Str)) = false := by decide) : wpAny (model X.prog X.w) X.A (eval (.Name x pos) X.env) Q E s :=
 Calls.Name_function_global I.ok.kind hg (Calls.loadGlobal_global (by rw [I.ok.glob]; exact I.mod.glob.keeps I.bk) hm h) hd
theorem ld_blt {E : Value → Shared → Prop} {pins : List (Addr × Obj)} {s : Shared} {σ : St} {H : Hp} {x : Str} {u : Value} {pos : Pos} {Q : Value → Shared → Prop} (I : Inv X pins σ H s) (hg : Gl X x) (hm : X.mg x = none) (hv : bootBuiltins x = some u) (h : Q u s)
  (hn : x ≠ "__name__" := by decide) (hd : (x == ("__debug__" : Str)) = false := by decide) : wpAny (model X.prog X.w) X.A (eval (.Name x pos) X.env) Q E s := by
 obtain ⟨mb,h1,h2⟩ := I.mod.blt
 exact Calls.Name_function_global I.ok.kind hg (Calls.loadGlobal_builtin (by rw [I.ok.glob]; exact I.mod.glob.keeps I.bk) hm (by rw [I.ok.blt]; exact h1.keeps I.bk) ((h2 x hn).trans hv) h) hd
theorem pe_glob {x : Str} {v : V} {u : Value} {pos : Pos} (hg : Gl X x) (hm : X.mg x = some u) (r : RelV v u) (hd : (x == ("__debug__" : Str)) = false := by decide) : PE X (.Name x pos) (tC v) :=
 fun _ _ _ H _ I h => ld_glob I hg hm ⟨v,H,I,r,h⟩ hd
variable {a b : Expr} {ta tb : TE} {pos : Pos}
def PC (X : Cx) (op : CmpOp) (a b : Expr) (t : TE) : Prop :=
 ∀ (pins : List (Addr × Obj)) (s : Shared) (σ : St) (H : Hp) (Q : VK),Inv X pins σ H s → t σ H Q →
  wpAny (model X.prog X.w) X.A (eval a X.env) (fun v s₁ => wpAny (model X.prog X.w) X.A (eval b X.env) (fun u s₂ => wpAny (model X.prog X.w) X.A (compareOp op v u) (EP X pins σ Q) X.xe s₂) X.xe s₁) X.xe s
def tB (t : TE) : TT := fun σ H Q => t σ H fun x H1 => ∃ c,x = .bl c ∧ Q c H1
theorem pt_cmp {op : CmpOp} {t : TE} (h : PC X op a b t) (h1 : behindInMarks op b = false := by first | exact nobehind _ (by decide) (by decide) | rfl) : PT X (.Compare a [op] [b] pos) (tB t) := by
 intro pins s σ H Q I hw
 refine wpAny_isTrue_Compare1 (thn (h pins s σ H _ I hw) fun v s1 h1 => thn h1 fun u s2 h2 => thn h2 fun c s3 ⟨x,H1,I1,r1,q1⟩ => ?_) h1
 obtain ⟨d,rfl,q⟩ := q1
 cases r1
 exact wpAny_truthy_bool ⟨H1,I1,q⟩
theorem pt_val {e : Expr} {t : TE} (h : PE X e t) (he : ∀ whole,isTrue e X.env whole = (do let v ← whole; standAt e.pos; holding [v] (truthy v)) := by intro _; rfl) : PT X e (tB t) := by
 intro pins s σ H Q I hw
 refine isTrue_plain (thn (h pins s σ H _ I hw) fun v s1 ⟨x,H1,I1,r1,q1⟩ => ?_) (he _)
 obtain ⟨d,rfl,q⟩ := q1
 cases r1
 exact wpAny_truthy_bool ⟨H1,I1,q⟩
variable {tA tB' : TT} {rest : List Expr}
def tAnd (t u : TT) : TT := fun σ H Q => t σ H fun c H1 => if c = true then u σ H1 Q else Q false H1
def tOr (t u : TT) : TT := fun σ H Q => t σ H fun c H1 => if c = true then Q true H1 else u σ H1 Q
def tNot (t : TT) : TT := fun σ H Q => t σ H fun c H1 => Q (!c) H1
theorem pw_and1 (ha : PT X a tA) : PW X (.BoolOp .And [a] pos) tA := by
 intro wh pins s σ H Q I h
 refine isTrue_and (thn (ha pins s σ H Q I h) fun c s1 e => ?_)
 cases c with
 | true => exact isTrue_and_nil e
 | false => exact e
theorem pw_or1 (ha : PT X a tA) : PW X (.BoolOp .Or [a] pos) tA := by
 intro wh pins s σ H Q I h
 refine isTrue_or (thn (ha pins s σ H Q I h) fun c s1 e => ?_)
 cases c with
 | false => exact isTrue_or_nil e
 | true => exact e
theorem pw_and (ha : PT X a tA) (hb : PW X (.BoolOp .And (b :: rest) pos) tB') : PW X (.BoolOp .And (a :: b :: rest) pos) (tAnd tA tB') := by
 intro wh pins s σ H Q I h
 refine isTrue_and (thn (ha pins s σ H _ I h) fun c s1 ⟨H1,I1,q1⟩ => ?_)
 cases c with
 | true => exact hb wh pins s1 σ H1 Q I1 q1
 | false => exact ⟨H1,I1,q1⟩
theorem pw_or (ha : PT X a tA) (hb : PW X (.BoolOp .Or (b :: rest) pos) tB') : PW X (.BoolOp .Or (a :: b :: rest) pos) (tOr tA tB') := by
 intro wh pins s σ H Q I h
 refine isTrue_or (thn (ha pins s σ H _ I h) fun c s1 ⟨H1,I1,q1⟩ => ?_)
 cases c with
 | true => exact ⟨H1,I1,q1⟩
 | false => exact hb wh pins s1 σ H1 Q I1 q1
theorem pt_not (ha : PT X a tA) : PT X (.UnaryOp .Not a pos) (tNot tA) := by
 intro pins s σ H Q I h
 exact isTrue_not (ha pins s σ H (fun c H1 => Q (!c) H1) I h)
def tAndV (ta tb : TE) : TE := fun σ H Q => ta σ H fun x H1 => ∃ c,x = .bl c ∧ if c = true then tb σ H1 Q else Q (.bl false) H1
theorem pe_one {op} {t : TE} (h : PE X a t) : PE X (.BoolOp op [a] pos) t := fun pins s σ H Q I hw => BoolOp_one (h pins s σ H Q I hw)
theorem pe_and (ha : PE X a ta) (hb : PE X (.BoolOp .And (b :: rest) pos) tb) : PE X (.BoolOp .And (a :: b :: rest) pos) (tAndV ta tb) := by
 intro pins s σ H Q I h
 refine BoolOp_and (thn (ha pins s σ H _ I h) fun v s1 ⟨x,H1,I1,r1,q1⟩ => ?_)
 obtain ⟨c,rfl,q1⟩ := q1
 cases r1
 refine wpAny_truthy_bool ?_
 cases c with
 | true => exact hb pins s1 σ H1 Q I1 q1
 | false => exact ⟨.bl false,H1,I1,rfl,q1⟩
def tIf (t : TT) (ta tb : TE) : TE := fun σ H Q => t σ H fun c H1 => if c = true then ta σ H1 Q else tb σ H1 Q
theorem pe_ifExp {c : Expr} (hc : PT X c tA) (ha : PE X a ta) (hb : PE X b tb) : PE X (.IfExp c a b pos) (tIf tA ta tb) := by
 intro pins s σ H Q I h
 refine wpAny_IfExp (thn (hc pins s σ H _ I h) fun d s1 ⟨H1,I1,q1⟩ => ?_)
 cases d with
 | true => exact ha pins s1 σ H1 Q I1 q1
 | false => exact hb pins s1 σ H1 Q I1 q1
end
end L2
namespace L2
open PySem PySem.Spec PyProof.Rows
def SqL (K : PySem.W.Frag) (H : Hp) (a : Addr) (xs : List V) : Prop :=
 Rd H a (.lst xs) ∨
  ∃ (o : Obj) (its : Array Value) (n : Nat),K.lookup a = some o ∧ o.cls = .type "list" ∧ o.dict = none ∧ o.data = .seq its n ∧ its.size ≤ sizeLine ∧ Vals xs its.toList
def SqT (K : PySem.W.Frag) (H : Hp) (a : Addr) (xs : List V) : Prop :=
 Rd H a (.tup xs) ∨
  ∃ (o : Obj) (its : Array Value) (n : Nat),K.lookup a = some o ∧ o.cls = .type "tuple" ∧ o.data = .seq its n ∧ its.size ≤ sizeLine ∧ Vals xs its.toList
def absV : Value → Option V
 | .none => some .non
 | .bool b => some (.bl b)
 | .int i _ => some (.int i)
 | .str x _ => some (.str x)
 | .bytes b _ => some (.byt b)
 | .float b _ => some (.flt b)
 | .ref a => some (.ref a)
 | .type n => some (.ty n)
 | _ => none
theorem RelV.abs {x : V} {u : Value} (r : RelV x u) : absV u = some x := by
 cases x with
 | non => cases r; rfl
 | bl _ => cases r; rfl
 | int _ => obtain ⟨t,rfl⟩ := r; rfl
 | str _ => obtain ⟨t,rfl⟩ := r; rfl
 | byt _ => obtain ⟨t,rfl⟩ := r; rfl
 | flt _ => obtain ⟨t,rfl⟩ := r; rfl
 | ref _ => cases r; rfl
 | ty _ => cases r; rfl
theorem RelV.inj {x y : V} {u : Value} (r : RelV x u) (q : RelV y u) : x = y := Option.some.inj (r.abs.symm.trans q.abs)
theorem Vals.inj : ∀ {xs ys : List V} {us : List Value},Vals xs us → Vals ys us → xs = ys
 | _,_,_,.nil,.nil => rfl
 | _,_,_,.cons r t,.cons r' t' => by rw [r.inj r',Vals.inj t t']
section
variable {X : Cx} {pins : List (Addr × Obj)} {σ : St} {H : Hp} {s : Shared} {a : Addr} {xs ys : List V}
theorem SqL.of {K : PySem.W.Frag} (h : H a = some (.lst xs)) : SqL K H a xs := .inl (.inl h)
theorem SqT.of {K : PySem.W.Frag} (h : H a = some (.tup xs)) : SqT K H a xs := .inl (.inl h)
theorem Inv.list (I : Inv X pins σ H s) (h : SqL X.K H a xs) : ∃ its : List Value,Vals xs its ∧ PlainL s.heap a its.toArray ∧ xs.length ≤ sizeLine := by
 rcases h with h | ⟨o,its,n,hk,hc,hd,hs,hz,r⟩
 ·obtain ⟨z,its,n,r,e⟩ := h.ok I.hok
  exact ⟨its,r,⟨_,n,e,rfl,rfl,rfl⟩,z⟩
 ·refine ⟨its.toList,r,⟨o,n,I.kIn a o hk,hc,hd,by simpa using hs⟩,?_⟩
  have e := r.length
  simp only [Array.length_toList] at e
  omega
theorem Inv.tuple (I : Inv X pins σ H s) (h : SqT X.K H a xs) : ∃ its : List Value,Vals xs its ∧ IsTup s.heap a its.toArray ∧ xs.length ≤ sizeLine := by
 rcases h with h | ⟨o,its,n,hk,hc,hs,hz,r⟩
 ·obtain ⟨z,its,r,p⟩ := h.ok I.hok
  exact ⟨its,r,p,z⟩
 ·refine ⟨its.toList,r,⟨o,I.kIn a o hk,hc,n,by simpa using hs⟩,?_⟩
  have e := r.length
  simp only [Array.length_toList] at e
  omega
theorem Inv.list_inj (I : Inv X pins σ H s) (h : SqL X.K H a xs) (h' : SqL X.K H a ys) : xs = ys := by
 obtain ⟨its,r,⟨o,n,e,_,_,d⟩,_⟩ := I.list h
 obtain ⟨its',r',⟨o',n',e',_,_,d'⟩,_⟩ := I.list h'
 rw [e] at e'; cases e'
 rw [d] at d'
 injection d' with d1 _
 have : its = its' := by simpa using congrArg Array.toList d1
 subst this
 exact r.inj r'
theorem Inv.tuple_inj (I : Inv X pins σ H s) (h : SqT X.K H a xs) (h' : SqT X.K H a ys) : xs = ys := by
 obtain ⟨its,r,⟨o,e,_,n,d⟩,_⟩ := I.tuple h
 obtain ⟨its',r',⟨o',e',_,n',d'⟩,_⟩ := I.tuple h'
 rw [e] at e'; cases e'
 rw [d] at d'
 injection d' with d1 _
 have : its = its' := by simpa using congrArg Array.toList d1
 subst this
 exact r.inj r'
end
abbrev Cx.wish (X : Cx) (E : Value → Shared → Prop) : Cx := { X with xe := E }
abbrev Cx.nox (X : Cx) : Cx := X.wish fun _ _ => False
theorem Cx.Ok.wish {X : Cx} (ok : X.Ok) (E : Value → Shared → Prop) : (X.wish E).Ok :=
 ⟨ok.mod,ok.kind,ok.glob,ok.blt,ok.above,ok.inj,ok.has,ok.cab,ok.hd,ok.frames,ok.stk,ok.exf,ok.bs,ok.bsz,ok.noex,ok.exfs,ok.funs,ok.frf⟩
theorem Cx.Ok.unwish {X : Cx} {E : Value → Shared → Prop} (ok : (X.wish E).Ok) : X.Ok :=
 ⟨ok.mod,ok.kind,ok.glob,ok.blt,ok.above,ok.inj,ok.has,ok.cab,ok.hd,ok.frames,ok.stk,ok.exf,ok.bs,ok.bsz,ok.noex,ok.exfs,ok.funs,ok.frf⟩
section
variable {X : Cx} {pins : List (Addr × Obj)} {σ : St} {H : Hp} {s : Shared} {E : Value → Shared → Prop}
theorem Inv.wish (I : Inv X pins σ H s) (E : Value → Shared → Prop) : Inv (X.wish E) pins σ H s := ⟨I.ok.wish E,I.os,I.bare,I.base,I.loc,I.cell,I.free,I.freeC,I.pin,I.hok,I.len⟩
theorem Inv.unwish (I : Inv (X.wish E) pins σ H s) : Inv X pins σ H s := ⟨I.ok.unwish,I.os,I.bare,I.base,I.loc,I.cell,I.free,I.freeC,I.pin,I.hok,I.len⟩
theorem SP.unwish {D : Ends} {f : Flow} {s' : Shared} (h : SP (X.wish E) pins D f s') : SP X pins D f s' := by
 cases f with
 | next => obtain ⟨σ',H',I,q⟩ := h; exact ⟨σ',H',I.unwish,q⟩
 | brk => obtain ⟨σ',H',I,q⟩ := h; exact ⟨σ',H',I.unwish,q⟩
 | cont => obtain ⟨σ',H',I,q⟩ := h; exact ⟨σ',H',I.unwish,q⟩
 | ret u => obtain ⟨v,σ',H',I,r,q⟩ := h; exact ⟨v,σ',H',I.unwish,r,q⟩
theorem PSs.nox {st : List Stmt} {t : TS} (h : PSs X.nox st t) : PSs X st t := fun pins s σ H D I hw =>
 wpAny_mono (h pins s σ H D (I.wish _) hw) (fun _ _ q => q.unwish) fun _ _ z => False.elim z
end
section
variable {X : Cx} {st : Stmt} {rest : List Stmt} {t u : TS} {e : Expr} {te : TE} {pos : Pos}
def tNext : TS := fun D σ H => D.nx σ H
def tSeq (t u : TS) : TS := fun D σ H => t { D with nx := u D } σ H
theorem pss_nil : PSs X [] tNext := fun _ _ σ H _ I h => wpAny_execs_nil ⟨σ,H,I,h⟩
theorem pss_cons (h1 : PS X st t) (h2 : PSs X rest u) : PSs X (st :: rest) (tSeq t u) := by
 intro pins s σ H D I h
 refine wpAny_execs_cons (thn (h1 pins s σ H { D with nx := u D } I h) fun f s1 q => ?_)
 cases f with
 | next =>
  obtain ⟨σ',H',I',q⟩ := q
  exact h2 pins s1 σ' H' D I' q
 | ret v => exact q
 | brk => exact q
 | cont => exact q
theorem pss_one (h1 : PS X st t) : PSs X [st] t := by
 intro pins s σ H D I h
 refine wpAny_execs_cons (thn (h1 pins s σ H D I h) fun f s1 q => ?_)
 cases f with
 | next => exact wpAny_execs_nil q
 | ret v => exact q
 | brk => exact q
 | cont => exact q
theorem ps_pass : PS X (.Pass pos) tNext := fun _ _ σ H _ I h => wpAny_Pass ⟨σ,H,I,h⟩
theorem Inv.quiet {pins : List (Addr × Obj)} {σ : St} {H : Hp} {s : Shared} (I : Inv X pins σ H s) : interactive X.env = false := by simp [interactive,I.ok.kind]
def tDrop (te : TE) : TS := fun D σ H => te σ H fun _ H1 => D.nx σ H1
theorem ps_expr (he : PE X e te) (hs : swapsWith e none pos.line X.env = pure false := by rfl) : PS X (.Expr e pos) (tDrop te) := by
 intro pins s σ H D I h
 exact wpAny_Expr_any (thn (he pins s σ H _ I h) fun v s1 ⟨x,H1,I1,r1,q1⟩ => ⟨σ,H1,I1,q1⟩) I.quiet hs
def tRet (te : TE) : TS := fun D σ H => te σ H D.rt
theorem ps_ret (he : PE X e te) : PS X (.Return (some e) pos) (tRet te) := by
 intro pins s σ H D I h
 exact wpAny_Return_some (thn (he pins s σ H _ I h) fun v s1 ⟨x,H1,I1,r1,q1⟩ => ⟨x,σ,H1,I1,r1,q1⟩)
def tRetN : TS := fun D _ H => D.rt .non H
theorem ps_retN : PS X (.Return none pos) tRetN := fun _ _ σ H _ I h => wpAny_Return_none ⟨.non,σ,H,I,rfl,h⟩
def tIfS (c : TT) (t u : TS) : TS := fun D σ H => c σ H fun b H1 => if b = true then t D σ H1 else u D σ H1
theorem ps_if {c : Expr} {a b : List Stmt} {tc : TT} (hc : PT X c tc) (ha : PSs X a t) (hb : PSs X b u) : PS X (.If c a b pos) (tIfS tc t u) := by
 intro pins s σ H D I h
 refine wpAny_If (thn (hc pins s σ H _ I h) fun d s1 ⟨H1,I1,q1⟩ => ?_)
 cases d with
 | true => exact ha pins s1 σ H1 D I1 q1
 | false => exact hb pins s1 σ H1 D I1 q1
end
abbrev TG := V → St → Hp → (St → Hp → Prop) → Prop
def PG (X : Cx) (target : Expr) (t : TG) : Prop :=
 ∀ (pins : List (Addr × Obj)) (s : Shared) (σ : St) (H : Hp) (v : V) (u : Value) (Q : St → Hp → Prop),Inv X pins σ H s → RelV v u → t v σ H Q →
  wpAny (model X.prog X.w) X.A (assign target X.env u) (fun _ s' => ∃ σ' H',Inv X pins σ' H' s' ∧ Q σ' H') X.xe s
abbrev TSet := V → V → V → Hp → (Hp → Prop) → Prop
def PSet (X : Cx) (t : TSet) : Prop :=
 ∀ (pins : List (Addr × Obj)) (s : Shared) (σ : St) (H : Hp) (o i v : V) (ov iv u : Value) (Q : Hp → Prop),Inv X pins σ H s → RelV o ov → RelV i iv → RelV v u → t o i v H Q →
  wpAny (model X.prog X.w) X.A (setItem ov iv u) (fun _ s' => ∃ H',Inv X pins σ H' s' ∧ Q H') X.xe s
section
variable {X : Cx} {pos : Pos}
def gName (i : Nat) : TG := fun v σ H Q => Q (σ.set i (some v)) H
theorem pg_name {i : Nat} {x : Str} (hN : X.N.Nodup) (hi : X.N[i]? = some x) (hx : Loc X.env.scope x) (hf : X.fn x = true ∨ X.env.scope.names.lookup x = some .local := by first | exact .inl rfl | exact .inr rfl | assumption) : PG X (.Name x pos) (gName i) := by
 intro pins s σ H v u Q I r h
 exact wpAny_assign_Name (store_ok I hN hi hx r (fun s' I' => ⟨_,H,I',h⟩) hf)
def gSub (to ti : TE) (t : TSet) : TG := fun v σ H Q => to σ H fun o H1 => ti σ H1 fun i H2 => t o i v H2 fun H3 => Q σ H3
theorem pg_sub {o i : Expr} {to ti : TE} {t : TSet} (ho : PE X o to) (hi : PE X i ti) (hs : PSet X t)
  (ha : ∀ v,assign (.Subscript o i pos) X.env v = (do
   let ov ← holding [v] (eval o X.env)
   let iv ← holding [v,ov] (eval i X.env)
   standAt pos
   holding [v,ov,iv] (setItem ov iv v)
   release [v,ov,iv] []) := by intro _; rfl) : PG X (.Subscript o i pos) (gSub to ti t) := by
 intro pins s σ H v u Q I r h
 rw [ha]
 refine wpAny_bind (wpAny_holding (thn (ho pins s σ H _ I h) fun ov s1 ⟨x,H1,I1,r1,q1⟩ => ?_))
 refine wpAny_bind (wpAny_holding (thn (hi pins s1 σ H1 _ I1 q1) fun iv s2 ⟨y,H2,I2,r2,q2⟩ => ?_))
 refine wpAny_bind (wpAny_standAt (wpAny_bind (wpAny_holding (thn (hs pins s2 σ H2 x y v ov iv u _ I2 r1 r2 r q2) fun _ s3 ⟨H3,I3,q3⟩ => ?_))))
 exact wpAny_release ⟨σ,H3,I3,q3⟩
def tAsg (te : TE) (g : TG) : TS := fun D σ H => te σ H fun x H1 => g x σ H1 D.nx
theorem ps_asg {tg e : Expr} {te : TE} {g : TG} (he : PE X e te) (hg : PG X tg g) (hs : swapsWithSole [tg] e pos.line X.env = pure false := by rfl) (hw : swappedStores [tg] e X.env = pure none := by rfl)
  (h1 : (assignEach [tg] X.env).map (·.2) = [assign tg X.env] := by rfl) : PS X (.Assign [tg] e pos) (tAsg te g) := by
 intro pins s σ H D I h
 refine wpAny_Assign_stores (thn (he pins s σ H _ I h) fun v s1 ⟨x,H1,I1,r1,q1⟩ => ?_) hs hw
 rw [h1]
 exact thn (hg pins s1 σ H1 x v _ I1 r1 q1) fun _ s2 q => q
theorem ps_set {i : Nat} {x : Str} {e : Expr} {te : TE} {pos' : Pos} (hN : X.N.Nodup) (hi : X.N[i]? = some x) (hx : Loc X.env.scope x) (he : PE X e te) (hs : swapsWith e (some (.Name x pos')) pos.line X.env = pure false := by rfl) (hf : X.fn x = true ∨ X.env.scope.names.lookup x = some .local := by first | exact .inl rfl | exact .inr rfl | assumption) :
  PS X (.Assign [.Name x pos'] e pos) (tAsg te (gName i)) := by
 intro pins s σ H D I h
 refine wpAny_Assign_Name (thn (he pins s σ H _ I h) fun v s1 ⟨y,H1,I1,r1,q1⟩ => ?_) hs
 exact store_ok I1 hN hi hx r1 (fun s2 I2 => ⟨_,H1,I2,q1⟩) hf
end
section
variable {X : Cx} {pos : Pos}
def tWhile (c : TT) (tb : TS) : TS := fun D σ H => ∃ W : Nat → St → Hp → Prop,(∃ m,W m σ H) ∧ ∀ m σ H,W m σ H →
 c σ H fun b H1 => if b = true then ∃ N : St → Hp → Prop,(∀ σ' H',N σ' H' → ∃ m',m' < m ∧ W m' σ' H') ∧ tb { D with nx := N,ct := N,bk := D.nx } σ H1 else D.nx σ H1
theorem ps_while {c : Expr} {body : List Stmt} {tc : TT} {tb : TS} (hp : PassesOwn (model X.prog X.w) X.A X.env X.xe) (hc : PT X c tc) (hb : PSs X body tb) : PS X (.While c body [] pos) (tWhile tc tb) := by
 intro pins s σ H D I h
 obtain ⟨W,⟨m0,w0⟩,turn⟩ := h
 refine wpAny_While (codeAny_whileLoop (fun n s' => ∃ σ' H',Inv X pins σ' H' s' ∧ W n σ' H') ?_ m0 ⟨σ,H,I,w0⟩)
 rintro n s1 ⟨σ1,H1,I1,w1⟩
 refine wpAny_passesOwn hp (thn (hc pins s1 σ1 H1 _ I1 (turn n σ1 H1 w1)) fun b s2 ⟨H2,I2,q2⟩ => ?_)
 cases b with
 | true =>
  obtain ⟨N,hN,q2⟩ := q2
  rw [if_pos rfl]
  refine wpAny_passesOwn hp (thn (hb pins s2 σ1 H2 _ I2 q2) fun f s3 q3 => ?_)
  cases f with
  | next =>
   obtain ⟨σ3,H3,I3,n3⟩ := q3
   obtain ⟨m',hm,w3⟩ := hN σ3 H3 n3
   exact ⟨m',hm,σ3,H3,I3,w3⟩
  | cont =>
   obtain ⟨σ3,H3,I3,n3⟩ := q3
   obtain ⟨m',hm,w3⟩ := hN σ3 H3 n3
   exact ⟨m',hm,σ3,H3,I3,w3⟩
  | brk => exact q3
  | ret v => exact q3
 | false =>
  rw [if_neg Bool.false_ne_true]
  exact wpAny_execs_nil ⟨σ1,H2,I2,q2⟩
end
structure It where
 go : Nat → Hp → Prop
 yld : Nat → Hp → V → Hp → Prop
 stop : Nat → Hp → Prop
def FpOk (X : Cx) (pins : List (Addr × Obj)) (H : Hp) (b : Addr) : Prop :=
 H b = none ∧ b ≠ X.env.locals ∧ b ∉ X.fs ∧ (b ∈ X.ex ∨ X.s_0.heap.objs.size ≤ b) ∧ (∀ x c,X.env.cells.lookup x = some c → c ≠ b) ∧ ∀ p ∈ X.pn ++ pins,p.1 ≠ b
theorem Inv.fpOk {X : Cx} {pins : List (Addr × Obj)} {σ : St} {H H' : Hp} {s : Shared} {b : Addr} (I : Inv X pins σ H s) (hb : s.heap.objs.size ≤ b) (hn : H' b = none) : FpOk X pins H' b := by
 refine ⟨hn,Nat.ne_of_gt (Nat.lt_of_lt_of_le I.lt hb),I.nofs hb,.inr (Nat.le_trans I.sz hb),fun x c e z => ?_,fun p hp z => ?_⟩
 ·obtain ⟨v,q⟩ := I.cell x c e
  exact absurd (Nat.lt_of_lt_of_le q.lt (by rw [z]; exact hb)) (Nat.lt_irrefl _)
 ·exact absurd (Nat.lt_of_lt_of_le (Heap.lt_size (I.pin p hp).1) (by rw [z]; exact hb)) (Nat.lt_irrefl _)
structure Turn (P : Program) (w : World) (K : PySem.W.Frag) (tg : Expr) (J : It) (fp : List Addr) (it : Addr) (tn : Nat → Heap → Prop) : Prop where
 mem : it ∈ fp
 obj : ∀ i h,tn i h → ∀ b ∈ fp,∃ o,h.get? b = some o ∧ ∀ v,o.data ≠ .cell v
 keep : ∀ i h h',tn i h → (∀ b ∈ fp,∀ o,h.get? b = some o → h'.get? b = some o) → tn i h'
 item : ∀ (X : Cx),X.prog = P → X.w = w → X.K = K → X.calm = true → ∀ (i : Nat) (pins : List (Addr × Obj)) (s : Shared) (σ : St) (H : Hp) (E : Value → Shared → Prop),Inv X pins σ H s → (∀ b ∈ fp,FpOk X pins H b) → tn i s.heap → J.go i H →
  wpAny (model P w) X.A (pyNext (.ref it)) (fun r s1 => ∃ u,r = some u ∧
   wpAny (model P w) X.A (letOwnedTupleGo tg (.ref it) u) (fun _ s2 => ∃ x H',Inv X pins σ H' s2 ∧ RelV x u ∧ J.yld i H x H' ∧ tn (i + 1) s2.heap ∧ ∀ b ∈ fp,H' b = none) E s1) E s
 done : ∀ (X : Cx),X.prog = P → X.w = w → X.K = K → X.calm = true → ∀ (i : Nat) (pins : List (Addr × Obj)) (s : Shared) (σ : St) (H : Hp) (E : Value → Shared → Prop),Inv X pins σ H s → (∀ b ∈ fp,FpOk X pins H b) → tn i s.heap → J.stop i H →
  wpAny (model P w) X.A (pyNext (.ref it)) (fun r s1 => r = none ∧ Inv X pins σ H s1) E s
 self : ∀ (A : Around) (i : Nat) (s : Shared) (Q : Value → Shared → Prop) (E : Value → Shared → Prop),tn i s.heap → Q (.ref it) s → wpAny (model P w) A (pyIter (.ref it)) Q E s
abbrev TI := St → Hp → (It → Hp → Prop) → Prop
def PIE (X : Cx) (pins : List (Addr × Obj)) (σ : St) (tg : Expr) (R : It → Hp → Prop) (itv : Value) (s2 : Shared) : Prop :=
 ∃ (it : Addr) (fp : List Addr) (tn : Nat → Heap → Prop) (J : It) (H' : Hp),itv = .ref it ∧ Inv X pins σ H' s2 ∧ Turn X.prog X.w X.K tg J fp it tn ∧ tn 0 s2.heap ∧ (∀ b ∈ fp,FpOk X pins H' b) ∧ R J H'
def PI (X : Cx) (tg iter : Expr) (wi : TI) : Prop :=
 ∀ (pins : List (Addr × Obj)) (s : Shared) (σ : St) (H : Hp) (R : It → Hp → Prop),Inv X pins σ H s → wi σ H R →
  wpAny (model X.prog X.w) X.A (eval iter X.env) (fun v s1 => wpAny (model X.prog X.w) X.A (pyIter v) (PIE X pins σ tg R) X.xe s1) X.xe s
theorem go_of {M : Model} {A : Around} {E : Value → Shared → Prop} {s : Shared} {tg : Expr} {it : Addr} {u : Value} {o : Obj} {n : String} {vs : Array Value} {Q : Unit → Shared → Prop} (ho : s.heap.get? it = some o) (hc : o.cls = .type n) (hd : o.data = .fields vs)
  (hn : ["enumerate","zip","dict_itemiterator","dict_reverseitemiterator","odict_iterator","itertools.zip_longest","itertools.pairwise"].contains n = false) (hQ : Q () s) : wpAny M A (letOwnedTupleGo tg (.ref it) u) Q E s := by
 unfold letOwnedTupleGo
 cases tg <;> first
  | exact wpAny_pure hQ
  | (cases u <;> first
    | exact wpAny_pure hQ
    | (refine wpAny_bind (wpAny_load ho ?_)
       rw [hc,hd]
       show wpAny M A (if (["enumerate","zip","dict_itemiterator","dict_reverseitemiterator","odict_iterator","itertools.zip_longest","itertools.pairwise"].contains n && vs[0]? == some (rawInt _)) = true then _ else _) Q E s
       rw [if_neg (by intro h; rw [hn,Bool.false_and] at h; cases h)]
       exact wpAny_pure hQ))
def Itl (K : PySem.W.Frag) (a : Addr) : It :=
 ⟨fun i H => ∃ xs x,SqL K H a xs ∧ xs[i]? = some x,fun i H x H' => H' = H ∧ ∀ xs,SqL K H a xs → xs[i]? = some x,fun i H => ∃ xs,SqL K H a xs ∧ xs.length ≤ i⟩
def Itt (K : PySem.W.Frag) (a : Addr) : It :=
 ⟨fun i H => ∃ xs x,SqT K H a xs ∧ xs[i]? = some x,fun i H x H' => H' = H ∧ ∀ xs,SqT K H a xs → xs[i]? = some x,fun i H => ∃ xs,SqT K H a xs ∧ xs.length ≤ i⟩
def Itr (lo : Int) (n : Nat) : It := ⟨fun i _ => i < n,fun i H x H' => H' = H ∧ x = .int (lo + i),fun i _ => n ≤ i⟩
theorem turn_list {P : Program} {w : World} {K : PySem.W.Frag} {tg : Expr} (a it : Addr) : Turn P w K tg (Itl K a) [it] it (fun i h => h.IsListIter it a i) where
 mem := by simp
 obj := fun i h st b hb => by
  have e : b = it := by simpa using hb
  subst e
  obtain ⟨o,e,c,d⟩ := st
  exact ⟨o,e,fun v z => by rw [d] at z; cases z⟩
 keep := fun i h h' st k => st.at fun o e => k it (by simp) o e
 item := by
  intro X hP hw hK hc i pins s σ H E I hf st hg
  subst hP hw hK
  obtain ⟨xs,x,hq,hx⟩ := hg
  obtain ⟨its,rv,p,hz⟩ := I.list hq
  obtain ⟨u,hu,ru⟩ := rv.get hx
  obtain ⟨f0,f1,f2,f3,f4,f5⟩ := hf it (by simp)
  refine wpAny_pyNext_list_item st p.isList (x := u) (by simpa using hu) fun h' st' sb => ?_
  have I1 : Inv X pins σ H { s with heap := h' } := I.turned (t' := s.toks) (fun b o hb e => (sb.2 b hb).trans e) f0 f1 f3 f4 f5
  obtain ⟨o,e,c,d⟩ := id st'
  exact ⟨u,rfl,go_of (s := { s with heap := h' }) e c d (by decide) ⟨x,H,I1,ru,⟨rfl,fun ys hy => by rw [I.list_inj hy hq]; exact hx⟩,st',fun b hb => (hf b hb).1⟩⟩
 done := by
  intro X hP hw hK hc i pins s σ H E I hf st hg
  subst hP hw hK
  obtain ⟨xs,hq,hx⟩ := hg
  obtain ⟨its,rv,p,hz⟩ := I.list hq
  obtain ⟨f0,f1,f2,f3,f4,f5⟩ := hf it (by simp)
  have hl := rv.length
  exact wpAny_pyNext_list_end (I.ok.hd hc) st p.isList (by simp; omega) fun h' eb => ⟨rfl,I.turned (t' := s.toks) (fun b o hb e => eb b o hb e) f0 f1 f3 f4 f5⟩
 self := fun _ _ _ _ _ st h => wpAny_pyIter_listiter st h
theorem turn_tuple {P : Program} {w : World} {K : PySem.W.Frag} {tg : Expr} (a it : Addr) : Turn P w K tg (Itt K a) [it] it (fun i h => h.IsTupleIter it a i) where
 mem := by simp
 obj := fun i h st b hb => by
  have e : b = it := by simpa using hb
  subst e
  obtain ⟨o,e,c,d⟩ := st
  exact ⟨o,e,fun v z => by rw [d] at z; cases z⟩
 keep := fun i h h' st k => st.at fun o e => k it (by simp) o e
 item := by
  intro X hP hw hK hc i pins s σ H E I hf st hg
  subst hP hw hK
  obtain ⟨xs,x,hq,hx⟩ := hg
  obtain ⟨its,rv,p,hz⟩ := I.tuple hq
  obtain ⟨u,hu,ru⟩ := rv.get hx
  obtain ⟨f0,f1,f2,f3,f4,f5⟩ := hf it (by simp)
  refine wpAny_pyNext_tuple_item st (show s.heap.IsTuple a its.toArray from p) (x := u) (by simpa using hu) fun h' st' sb => ?_
  have I1 : Inv X pins σ H { s with heap := h' } := I.turned (t' := s.toks) (fun b o hb e => (sb.2 b hb).trans e) f0 f1 f3 f4 f5
  obtain ⟨o,e,c,d⟩ := id st'
  exact ⟨u,rfl,go_of (s := { s with heap := h' }) e c d (by decide) ⟨x,H,I1,ru,⟨rfl,fun ys hy => by rw [I.tuple_inj hy hq]; exact hx⟩,st',fun b hb => (hf b hb).1⟩⟩
 done := by
  intro X hP hw hK hc i pins s σ H E I hf st hg
  subst hP hw hK
  obtain ⟨xs,hq,hx⟩ := hg
  obtain ⟨its,rv,p,hz⟩ := I.tuple hq
  obtain ⟨f0,f1,f2,f3,f4,f5⟩ := hf it (by simp)
  have hl := rv.length
  exact wpAny_pyNext_tuple_end (I.ok.hd hc) st (show s.heap.IsTuple a its.toArray from p) (by simp; omega) fun h' eb => ⟨rfl,I.turned (t' := s.toks) (fun b o hb e => eb b o hb e) f0 f1 f3 f4 f5⟩
 self := fun _ _ _ _ _ st h => wpAny_pyIter_tupleiter st h
theorem turn_range {P : Program} {w : World} {K : PySem.W.Frag} {tg : Expr} (it : Addr) (lo : Int) (n : Nat) : Turn P w K tg (Itr lo n) [it] it (fun i h => IsRangeIter h it (lo + (i : Nat) * 1) ((n : Int) - (i : Nat)) 1) where
 mem := by simp
 obj := fun i h st b hb => by
  have e : b = it := by simpa using hb
  subst e
  exact ⟨_,st,fun v z => by
   have z' : Data.fields _ = Data.cell v := z
   cases z'⟩
 keep := fun i h h' st k => k it (by simp) _ st
 item := by
  intro X hP hw hK hc i pins s σ H E I hf st hg
  subst hP hw hK
  obtain ⟨f0,f1,f2,f3,f4,f5⟩ := hf it (by simp)
  have W := Walks.range (prog := X.prog) (w := X.w) (I.ok.hd hc) it lo 1 n
  refine W.item i s _ _ hg st fun v h' tk hv st' kk => ?_
  obtain ⟨t,rfl⟩ := hv
  have I1 : Inv X pins σ H { s with heap := h',toks := tk } := I.turned (fun b o hb e => kk b o (by simpa using hb) e) f0 f1 f3 f4 f5
  refine ⟨_,rfl,go_of (s := { s with heap := h',toks := tk }) (n := "range_iterator") st' rfl rfl (by decide) ⟨.int (lo + i),H,I1,⟨t,?_⟩,⟨rfl,rfl⟩,st',fun b hb => (hf b hb).1⟩⟩
  rw [Int.mul_one]
 done := by
  intro X hP hw hK hc i pins s σ H E I hf st hg
  subst hP hw hK
  obtain ⟨f0,f1,f2,f3,f4,f5⟩ := hf it (by simp)
  exact wpAny_pyNext_range_end (I.ok.hd hc) st (by have : n ≤ i := hg; omega) fun h' eb => ⟨rfl,I.turned (t' := s.toks) (fun b o hb e => eb b o hb e) f0 f1 f3 f4 f5⟩
 self := fun _ _ _ _ _ st h => wpAny_pyIter_rangeiter st h
end L2
namespace L2
open PySem PySem.Spec PyProof.Rows
section
variable {X : Cx} {tg : Expr}
def iList (K : PySem.W.Frag) (tl : TE) : TI := fun σ H R => tl σ H fun x H1 => ∃ a,x = .ref a ∧ (∃ xs,SqL K H1 a xs) ∧ R (Itl K a) H1
def iTup (K : PySem.W.Frag) (tl : TE) : TI := fun σ H R => tl σ H fun x H1 => ∃ a,x = .ref a ∧ (∃ xs,SqT K H1 a xs) ∧ R (Itt K a) H1
theorem pi_list {l : Expr} {tl : TE} (hl : PE X l tl) : PI X tg l (iList X.K tl) := by
 intro pins s σ H R I h
 refine thn (hl pins s σ H _ I h) fun v s1 ⟨x,H1,I1,r1,q1⟩ => ?_
 obtain ⟨a,e,⟨xs,hq⟩,q⟩ := q1
 subst e
 cases r1
 obtain ⟨its,rv,p,hz⟩ := I1.list hq
 refine wpAny_pyIter_list p.isList ?_
 refine ⟨s1.heap.objs.size,[s1.heap.objs.size],_,_,H1,rfl,I1.kept (t' := s1.toks) fun b o e => Heap.get?_push_of_some _ e,turn_list a _,⟨_,Heap.get?_push_size _ rfl,rfl,rfl⟩,fun b hb => ?_,q⟩
 have e : b = s1.heap.objs.size := by simpa using hb
 subst e
 exact I1.fpOk (Nat.le_refl _) (I1.hok.fresh (Nat.le_refl _))
theorem pi_tup {l : Expr} {tl : TE} (hl : PE X l tl) : PI X tg l (iTup X.K tl) := by
 intro pins s σ H R I h
 refine thn (hl pins s σ H _ I h) fun v s1 ⟨x,H1,I1,r1,q1⟩ => ?_
 obtain ⟨a,e,⟨xs,hq⟩,q⟩ := q1
 subst e
 cases r1
 obtain ⟨its,rv,p,hz⟩ := I1.tuple hq
 refine wpAny_pyIter_tuple (show s1.heap.IsTuple a its.toArray from p) ?_
 refine ⟨s1.heap.objs.size,[s1.heap.objs.size],_,_,H1,rfl,I1.kept (t' := s1.toks) fun b o e => Heap.get?_push_of_some _ e,turn_tuple a _,⟨_,Heap.get?_push_size _ rfl,rfl,rfl⟩,fun b hb => ?_,q⟩
 have e : b = s1.heap.objs.size := by simpa using hb
 subst e
 exact I1.fpOk (Nat.le_refl _) (I1.hok.fresh (Nat.le_refl _))
theorem range_it {pins : List (Addr × Obj)} {σ : St} {H : Hp} {s : Shared} {R : It → Hp → Prop} {E : Value → Shared → Prop} {lo hi : Int} {t u v : Tok} {tk : Nat} (I : Inv X pins σ H s) (h1 : -(2 ^ 62) ≤ lo) (h2 : lo < 2 ^ 62) (h3 : -(2 ^ 62) ≤ hi) (h4 : hi < 2 ^ 62)
  (q : R (Itr lo (hi - lo).toNat) H) : wpAny (model X.prog X.w) X.A (pyIter (.ref s.heap.objs.size)) (PIE X pins σ tg R) E { s with heap := s.heap.push { cls := .type "range",data := .fields #[.int lo t,.int hi u,.int 1 v] },toks := tk } := by
 refine wpAny_pyIter_range (IsRange.new ..) (small_one h1 h2 h3 h4) ?_
 have I1 : Inv X pins σ H { s with heap := s.heap.push { cls := .type "range",data := .fields #[.int lo t,.int hi u,.int 1 v] },toks := tk } := I.kept fun b o e => Heap.get?_push_of_some _ e
 refine ⟨(s.heap.push { cls := .type "range",data := .fields #[.int lo t,.int hi u,.int 1 v] }).objs.size,[(s.heap.push { cls := .type "range",data := .fields #[.int lo t,.int hi u,.int 1 v] }).objs.size],_,_,H,rfl,
  I1.kept (t' := tk) fun b o e => Heap.get?_push_of_some _ e,turn_range _ lo (hi - lo).toNat,?_,fun b hb => ?_,q⟩
 ·have e1 : lo + ((0 : Nat) : Int) * 1 = lo := by simp
  have e2 : (((hi - lo).toNat : Nat) : Int) - ((0 : Nat) : Int) = Builtin.Range.rangeSize lo hi 1 := by rw [rangeSize_one]; split <;> omega
  show IsRangeIter _ _ (lo + ((0 : Nat) : Int) * 1) ((((hi - lo).toNat : Nat) : Int) - ((0 : Nat) : Int)) 1
  rw [e1,e2]
  exact Heap.get?_push_size _ rfl
 ·have e : b = (s.heap.push { cls := .type "range",data := .fields #[.int lo t,.int hi u,.int 1 v] }).objs.size := by simpa using hb
  subst e
  exact I1.fpOk (Nat.le_refl _) (I1.hok.fresh (Nat.le_refl _))
def iRng1 (ta : TA) : TI := fun σ H R => ta σ H fun vs H1 => ∃ j : Int,vs = [.int j] ∧ -(2 ^ 62) ≤ j ∧ j < 2 ^ 62 ∧ R (Itr 0 j.toNat) H1
theorem pi_range1 {a : Expr} {ta : TA} {p pos : Pos} (hg : Gl X "range") (hm : X.mg "range" = none) (ha : PA X [a] ta) (hs : starEach [a] X.env = [(false,eval a X.env)] := by rfl) : PI X tg (.Call (.Name "range" p) [a] [] pos) (iRng1 ta) := by
 intro pins s σ H R I h
 refine Call_ (ld_blt I hg hm boot_range (PyProof.Rows.callWith_type1 (thn (ha pos pins s σ H _ I h) fun us s1 ⟨vs,H1,I1,r1,q1⟩ => ?_) hs rfl))
 obtain ⟨j,e,q1,q2,q⟩ := q1
 subst e
 cases r1 with
 | cons r rr =>
  cases rr
  obtain ⟨t,rfl⟩ := r
  exact call_range_1 (range_it I1 (by omega) (by omega) q1 q2 (by simpa using q))
def tFor (wi : TI) (g : TG) (tb : TS) : TS := fun D σ H => wi σ H fun J H1 => ∃ W : Nat → Nat → St → Hp → Prop,(∃ m,W 0 m σ H1) ∧ ∀ i m σ H,W i m σ H →
 (J.stop i H ∧ D.nx σ H) ∨ (J.go i H ∧ ∃ N : St → Hp → Prop,(∀ σ' H',N σ' H' → ∃ m',m' < m ∧ W (i + 1) m' σ' H') ∧ ∀ x H',J.yld i H x H' → g x σ H' fun σ2 H2 => tb { D with nx := N,ct := N,bk := D.nx } σ2 H2)
def pinsAt (fp : List Addr) (h : Heap) : List (Addr × Obj) := fp.filterMap fun b => (h.get? b).map fun o => (b,o)
theorem mem_pinsAt {fp : List Addr} {h : Heap} {b : Addr} {o : Obj} (hb : b ∈ fp) (e : h.get? b = some o) : (b,o) ∈ pinsAt fp h := List.mem_filterMap.mpr ⟨b,hb,by rw [e]; rfl⟩
theorem of_pinsAt {fp : List Addr} {h : Heap} {p : Addr × Obj} (hp : p ∈ pinsAt fp h) : p.1 ∈ fp ∧ h.get? p.1 = some p.2 := by
 obtain ⟨b,hb,e⟩ := List.mem_filterMap.mp hp
 cases q : h.get? b with
 | none => rw [q] at e; cases e
 | some o =>
  rw [q] at e
  have e' : (b,o) = p := Option.some.inj e
  subst e'
  exact ⟨hb,q⟩
theorem Inv.pinned {pins : List (Addr × Obj)} {σ : St} {H : Hp} {s : Shared} {fp : List Addr} (I : Inv X pins σ H s) (hf : ∀ b ∈ fp,FpOk X pins H b) (ho : ∀ b ∈ fp,∃ o,s.heap.get? b = some o ∧ ∀ v,o.data ≠ .cell v) : Inv X (pins ++ pinsAt fp s.heap) σ H s :=
 I.pins_of fun p hp => (List.mem_append.mp hp).elim (fun z => I.pin p (List.mem_append_right _ z)) fun z => by
  obtain ⟨hb,e⟩ := of_pinsAt z
  obtain ⟨f0,f1,f2,_⟩ := hf p.1 hb
  obtain ⟨o,e',d⟩ := ho p.1 hb
  rw [e] at e'; cases e'
  exact ⟨e,f0,f1,f2,d⟩
theorem Inv.unpinned {pins pl : List (Addr × Obj)} {σ : St} {H : Hp} {s : Shared} (I : Inv X (pins ++ pl) σ H s) : Inv X pins σ H s := I.pins_of fun p hp => I.pin p (List.mem_append_right _ (List.mem_append_left _ hp))
theorem ps_for {iter : Expr} {body : List Stmt} {wi : TI} {g : TG} {tb : TS} {pos : Pos} (hp : PassesOwn (model X.prog X.w) X.A X.env X.xe) (hc : X.calm = true) (hi : PI X tg iter wi) (hg : PG X tg g) (hb : PSs X body tb)
  (hs : ∀ x,foldedSetIterable iter X.env x = pure x := by intro _; rfl) : PS X (.For tg iter body [] pos) (tFor wi g tb) := by
 intro pins s σ H D I h
 refine wpAny_For (thn (hi pins s σ H _ I h) fun v s1 h1 => thn h1 fun itv s2 h2 => ?_) hs
 obtain ⟨it,fp,tn,J,H2,e,I2,T,st2,f2,W,⟨m0,w0⟩,turn⟩ := h2
 subst e
 have stat : ∀ {H' : Hp},(∀ b ∈ fp,H' b = none) → ∀ b ∈ fp,FpOk X pins H' b := fun hn b hb => ⟨hn b hb,(f2 b hb).2⟩
 refine codeAny_forLoop_any (fun n s' => ∃ i σ' H',Inv X pins σ' H' s' ∧ tn i s'.heap ∧ (∀ b ∈ fp,H' b = none) ∧ W i n σ' H') ?_ m0 ⟨0,σ,H2,I2,st2,fun b hb => (f2 b hb).1,w0⟩
 rintro n s3 ⟨i,σ3,H3,I3,st3,fr3,w3⟩
 rcases turn i n σ3 H3 w3 with ⟨stop,qn⟩ | ⟨go,N,hN,step⟩
 ·refine wpAny_passesOwn hp (thn (T.done X rfl rfl rfl hc i pins s3 σ3 H3 X.xe I3 (stat fr3) st3 stop) fun r s4 ⟨hr,I4⟩ => ?_)
  subst hr
  exact wpAny_execs_nil ⟨σ3,H3,I4,qn⟩
 ·refine wpAny_passesOwn hp (thn (T.item X rfl rfl rfl hc i pins s3 σ3 H3 X.xe I3 (stat fr3) st3 go) fun r s4 ⟨u,hr,h4⟩ => ?_)
  subst hr
  refine wpAny_passesOwn hp (thn h4 fun _ s5 ⟨x,H5,I5,r5,y5,st5,fr5⟩ => ?_)
  have I5' := I5.pinned (stat fr5) (T.obj _ _ st5)
  refine wpAny_passesOwn hp (thn (hg _ s5 σ3 H5 x u _ I5' r5 (step x H5 y5)) fun _ s6 ⟨σ6,H6,I6,q6⟩ => ?_)
  refine wpAny_passesOwn hp (thn (hb _ s6 σ6 H6 _ I6 q6) fun f s7 q7 => ?_)
  have again : ∀ {σ7 : St} {H7 : Hp},Inv X (pins ++ pinsAt fp s5.heap) σ7 H7 s7 → N σ7 H7 → ∃ m,m < n ∧ ∃ i σ' H',Inv X pins σ' H' s7 ∧ tn i s7.heap ∧ (∀ b ∈ fp,H' b = none) ∧ W i m σ' H' := fun {σ7 H7} I7 n7 => by
   obtain ⟨m',hm,w7⟩ := hN σ7 H7 n7
   refine ⟨m',hm,i + 1,σ7,H7,I7.unpinned,T.keep _ _ _ st5 fun b hb o e => (I7.pin (b,o) (List.mem_append_right _ (List.mem_append_right _ (mem_pinsAt hb e)))).1,fun b hb => ?_,w7⟩
   obtain ⟨o,e,d⟩ := T.obj _ _ st5 b hb
   exact (I7.pin (b,o) (List.mem_append_right _ (List.mem_append_right _ (mem_pinsAt hb e)))).2.1
  cases f with
  | next => obtain ⟨σ7,H7,I7,n7⟩ := q7; exact again I7 n7
  | cont => obtain ⟨σ7,H7,I7,n7⟩ := q7; exact again I7 n7
  | brk => obtain ⟨σ7,H7,I7,q7⟩ := q7; exact ⟨σ7,H7,I7.unpinned,q7⟩
  | ret v => obtain ⟨x7,σ7,H7,I7,r7,q7⟩ := q7; exact ⟨x7,σ7,H7,I7.unpinned,r7,q7⟩
end
theorem for_list {K : PySem.W.Frag} {a : Addr} {xs : List V} {g : TG} {tb : TS} {D : Ends} {σ : St} {H : Hp} (Pv : Nat → St → Hp → Prop) (h0 : Pv 0 σ H) (hl : ∀ i σ H,i ≤ xs.length → Pv i σ H → SqL K H a xs)
  (hs : ∀ i x σ H,xs[i]? = some x → Pv i σ H → g x σ H fun σ2 H2 => tb { D with nx := Pv (i + 1),ct := Pv (i + 1),bk := D.nx } σ2 H2) (hd : ∀ σ H,Pv xs.length σ H → D.nx σ H) :
  ∃ W : Nat → Nat → St → Hp → Prop,(∃ m,W 0 m σ H) ∧ ∀ i m σ H,W i m σ H →
   ((Itl K a).stop i H ∧ D.nx σ H) ∨ ((Itl K a).go i H ∧ ∃ N : St → Hp → Prop,(∀ σ' H',N σ' H' → ∃ m',m' < m ∧ W (i + 1) m' σ' H') ∧ ∀ x H',(Itl K a).yld i H x H' → g x σ H' fun σ2 H2 => tb { D with nx := N,ct := N,bk := D.nx } σ2 H2) := by
 refine ⟨fun i m σ H => m = xs.length - i ∧ i ≤ xs.length ∧ Pv i σ H,⟨xs.length,by simp,Nat.zero_le _,h0⟩,?_⟩
 rintro i m σ H ⟨rfl,hi,p⟩
 have q := hl i σ H hi p
 by_cases hlt : i < xs.length
 ·refine .inr ⟨⟨xs,xs[i],q,by simp [hlt]⟩,Pv (i + 1),fun σ' H' p' => ⟨xs.length - (i + 1),by omega,rfl,hlt,p'⟩,fun x H' y => ?_⟩
  obtain ⟨e,y⟩ := y
  subst e
  exact hs i x σ _ (y xs q) p
 ·have e : i = xs.length := by omega
  subst e
  exact .inl ⟨⟨xs,q,Nat.le_refl _⟩,hd σ H p⟩
theorem for_tup {K : PySem.W.Frag} {a : Addr} {xs : List V} {g : TG} {tb : TS} {D : Ends} {σ : St} {H : Hp} (Pv : Nat → St → Hp → Prop) (h0 : Pv 0 σ H) (hl : ∀ i σ H,i ≤ xs.length → Pv i σ H → SqT K H a xs)
  (hs : ∀ i x σ H,xs[i]? = some x → Pv i σ H → g x σ H fun σ2 H2 => tb { D with nx := Pv (i + 1),ct := Pv (i + 1),bk := D.nx } σ2 H2) (hd : ∀ σ H,Pv xs.length σ H → D.nx σ H) :
  ∃ W : Nat → Nat → St → Hp → Prop,(∃ m,W 0 m σ H) ∧ ∀ i m σ H,W i m σ H →
   ((Itt K a).stop i H ∧ D.nx σ H) ∨ ((Itt K a).go i H ∧ ∃ N : St → Hp → Prop,(∀ σ' H',N σ' H' → ∃ m',m' < m ∧ W (i + 1) m' σ' H') ∧ ∀ x H',(Itt K a).yld i H x H' → g x σ H' fun σ2 H2 => tb { D with nx := N,ct := N,bk := D.nx } σ2 H2) := by
 refine ⟨fun i m σ H => m = xs.length - i ∧ i ≤ xs.length ∧ Pv i σ H,⟨xs.length,by simp,Nat.zero_le _,h0⟩,?_⟩
 rintro i m σ H ⟨rfl,hi,p⟩
 have q := hl i σ H hi p
 by_cases hlt : i < xs.length
 ·refine .inr ⟨⟨xs,xs[i],q,by simp [hlt]⟩,Pv (i + 1),fun σ' H' p' => ⟨xs.length - (i + 1),by omega,rfl,hlt,p'⟩,fun x H' y => ?_⟩
  obtain ⟨e,y⟩ := y
  subst e
  exact hs i x σ _ (y xs q) p
 ·have e : i = xs.length := by omega
  subst e
  exact .inl ⟨⟨xs,q,Nat.le_refl _⟩,hd σ H p⟩
theorem for_range {lo : Int} {n : Nat} {g : TG} {tb : TS} {D : Ends} {σ : St} {H : Hp} (Pv : Nat → St → Hp → Prop) (h0 : Pv 0 σ H)
  (hs : ∀ i σ H,i < n → Pv i σ H → g (.int (lo + i)) σ H fun σ2 H2 => tb { D with nx := Pv (i + 1),ct := Pv (i + 1),bk := D.nx } σ2 H2) (hd : ∀ σ H,Pv n σ H → D.nx σ H) :
  ∃ W : Nat → Nat → St → Hp → Prop,(∃ m,W 0 m σ H) ∧ ∀ i m σ H,W i m σ H →
   ((Itr lo n).stop i H ∧ D.nx σ H) ∨ ((Itr lo n).go i H ∧ ∃ N : St → Hp → Prop,(∀ σ' H',N σ' H' → ∃ m',m' < m ∧ W (i + 1) m' σ' H') ∧ ∀ x H',(Itr lo n).yld i H x H' → g x σ H' fun σ2 H2 => tb { D with nx := N,ct := N,bk := D.nx } σ2 H2) := by
 refine ⟨fun i m σ H => m = n - i ∧ i ≤ n ∧ Pv i σ H,⟨n,by simp,Nat.zero_le _,h0⟩,?_⟩
 rintro i m σ H ⟨rfl,hi,p⟩
 by_cases hlt : i < n
 ·refine .inr ⟨hlt,Pv (i + 1),fun σ' H' p' => ⟨n - (i + 1),by omega,rfl,hlt,p'⟩,fun x H' y => ?_⟩
  obtain ⟨e,y⟩ := y
  subst e y
  exact hs i σ _ hlt p
 ·have e : i = n := by omega
  subst e
  exact .inl ⟨Nat.le_refl _,hd σ H p⟩
end L2
namespace L2
open PySem PySem.Spec PyProof.Rows
abbrev R2 := V → V → Hp → VK → Prop
def OpR (X : Cx) (f : Value → Value → Sem Value) (r : R2) : Prop :=
 ∀ (pins : List (Addr × Obj)) (s : Shared) (σ : St) (H : Hp) (x y : V) (v u : Value) (Q : VK),Inv X pins σ H s → RelV x v → RelV y u → r x y H Q →
  wpAny (model X.prog X.w) X.A (f v u) (EP X pins σ Q) X.xe s
def UnR (X : Cx) (f : Value → Sem Value) (r : V → Hp → VK → Prop) : Prop :=
 ∀ (pins : List (Addr × Obj)) (s : Shared) (σ : St) (H : Hp) (x : V) (v : Value) (Q : VK),Inv X pins σ H s → RelV x v → r x H Q →
  wpAny (model X.prog X.w) X.A (f v) (EP X pins σ Q) X.xe s
def CallR (X : Cx) (f : Value) (r : List V → Hp → VK → Prop) : Prop :=
 ∀ (pins : List (Addr × Obj)) (s : Shared) (σ : St) (H : Hp) (xs : List V) (us : List Value) (Q : VK),Inv X pins σ H s → Vals xs us → r xs H Q →
  wpAny (model X.prog X.w) X.A (call f us) (EP X pins σ Q) X.xe s
def TruR (X : Cx) (r : V → Hp → (Bool → Hp → Prop) → Prop) : Prop :=
 ∀ (pins : List (Addr × Obj)) (s : Shared) (σ : St) (H : Hp) (x : V) (v : Value) (Q : Bool → Hp → Prop),Inv X pins σ H s → RelV x v → r x H Q →
  wpAny (model X.prog X.w) X.A (truthy v) (TP X pins σ Q) X.xe s
def tOp (r : R2) (ta tb : TE) : TE := fun σ H Q => ta σ H fun x H1 => tb σ H1 fun y H2 => r x y H2 Q
def tUn (r : V → Hp → VK → Prop) (ta : TE) : TE := fun σ H Q => ta σ H fun x H1 => r x H1 Q
def rI (C : Int → Int → Prop) (g : Int → Int → V) : R2 := fun x y H Q => ∃ i j,x = .int i ∧ y = .int j ∧ C i j ∧ Q (g i j) H
def rI0 (g : Int → Int → V) : R2 := fun x y H Q => ∃ i j,x = .int i ∧ y = .int j ∧ Q (g i j) H
def rU (g : Int → V) : V → Hp → VK → Prop := fun x H Q => ∃ i,x = .int i ∧ Q (g i) H
section
variable {X : Cx} {a b c : Expr} {ta tb tc : TE} {pos : Pos}
theorem binT (ha : PE X a ta) (hb : PE X b tb) {pins : List (Addr × Obj)} {s : Shared} {σ : St} {H : Hp} {R : V → V → Hp → Prop} (I : Inv X pins σ H s)
  (h : ta σ H fun x H1 => tb σ H1 fun y H2 => R x y H2) {Q : Value → Shared → Prop} {f : Value → Value → Sem Value}
  (hf : ∀ v u s2 x y H2,Inv X pins σ H2 s2 → RelV x v → RelV y u → R x y H2 → wpAny (model X.prog X.w) X.A (f v u) Q X.xe s2) :
  wpAny (model X.prog X.w) X.A (eval a X.env) (fun v s₁ => wpAny (model X.prog X.w) X.A (eval b X.env) (fun u s₂ => wpAny (model X.prog X.w) X.A (f v u) Q X.xe s₂) X.xe s₁) X.xe s := by
 refine thn (ha pins s σ H _ I h) fun v s1 ⟨x,H1,I1,r1,q1⟩ => ?_
 refine thn (hb pins s1 σ H1 _ I1 q1) fun u s2 ⟨y,H2,I2,r2,q2⟩ => ?_
 exact hf v u s2 x y H2 I2 r1 r2 q2
theorem pe_op {op : Operator} {r : R2} (ho : OpR X (binaryOp op) r) (ha : PE X a ta) (hb : PE X b tb) : PE X (.BinOp a op b pos) (tOp r ta tb) := by
 intro pins s σ H Q I h
 exact wpAny_BinOp (binT ha hb I h fun v u s2 x y H2 I2 rx ry q => ho pins s2 σ H2 x y v u Q I2 rx ry q)
theorem pe_un {op : UnaryOp} {r : V → Hp → VK → Prop} (ho : UnR X (unaryOp op) r) (ha : PE X a ta) : PE X (.UnaryOp op a pos) (tUn r ta) := by
 intro pins s σ H Q I h
 exact UnaryOp_ (thn (ha pins s σ H _ I h) fun v s1 ⟨x,H1,I1,r1,q1⟩ => ho pins s1 σ H1 x v Q I1 r1 q1)
theorem opI {f : Value → Value → Sem Value} {C : Int → Int → Prop} {g : Int → Int → Int}
  (rule : ∀ (i j : Int) (t u : Tok) (s : Shared) (Q : Value → Shared → Prop) (E : Value → Shared → Prop),C i j → Q (.int (g i j) s.toks) { s with toks := s.toks + 1 } → wpAny (model X.prog X.w) X.A (f (.int i t) (.int j u)) Q E s) :
  OpR X f (rI C fun i j => .int (g i j)) := by
 intro pins s σ H x y v u Q I rx ry h
 obtain ⟨i,j,rfl,rfl,hc,q⟩ := h
 obtain ⟨t,rfl⟩ := rx
 obtain ⟨t',rfl⟩ := ry
 exact rule i j t t' s _ _ hc ⟨.int (g i j),H,I.tok _,⟨_,rfl⟩,q⟩
theorem opI0 {f : Value → Value → Sem Value} {g : Int → Int → Int}
  (rule : ∀ (i j : Int) (t u : Tok) (s : Shared) (Q : Value → Shared → Prop) (E : Value → Shared → Prop),Q (.int (g i j) s.toks) { s with toks := s.toks + 1 } → wpAny (model X.prog X.w) X.A (f (.int i t) (.int j u)) Q E s) :
  OpR X f (rI0 fun i j => .int (g i j)) := by
 intro pins s σ H x y v u Q I rx ry h
 obtain ⟨i,j,rfl,rfl,q⟩ := h
 obtain ⟨t,rfl⟩ := rx
 obtain ⟨t',rfl⟩ := ry
 exact rule i j t t' s _ _ ⟨.int (g i j),H,I.tok _,⟨_,rfl⟩,q⟩
theorem opB0 {f : Value → Value → Sem Value} {g : Int → Int → Bool}
  (rule : ∀ (i j : Int) (t u : Tok) (s : Shared) (Q : Value → Shared → Prop) (E : Value → Shared → Prop),Q (.bool (g i j)) s → wpAny (model X.prog X.w) X.A (f (.int i t) (.int j u)) Q E s) :
  OpR X f (rI0 fun i j => .bl (g i j)) := by
 intro pins s σ H x y v u Q I rx ry h
 obtain ⟨i,j,rfl,rfl,q⟩ := h
 obtain ⟨t,rfl⟩ := rx
 obtain ⟨t',rfl⟩ := ry
 exact rule i j t t' s _ _ ⟨.bl (g i j),H,I,rfl,q⟩
def CMul (i j : Int) : Prop := (-(2 ^ 64) < i ∧ i < 2 ^ 64) ∨ (-(2 ^ 64) < j ∧ j < 2 ^ 64)
theorem CMul.ok {i j : Int} (h : CMul i j) : IntMulOk i j := by
 rcases h with ⟨h1,h2⟩ | ⟨h1,h2⟩
 ·exact .of_left (intBits_le_64 h1 h2)
 ·exact .of_right (intBits_le_64 h1 h2)
theorem op_add : OpR X (binaryOp .Add) (rI0 fun i j => .int (i + j)) := opI0 fun _ _ _ _ _ _ _ q => add_int q
theorem op_sub : OpR X (binaryOp .Sub) (rI0 fun i j => .int (i - j)) := opI0 fun _ _ _ _ _ _ _ q => sub_int q
theorem op_mul : OpR X (binaryOp .Mult) (rI CMul fun i j => .int (i * j)) := opI fun _ _ _ _ _ _ _ hc q => mul_int q hc.ok
theorem op_mod : OpR X (binaryOp .Mod) (rI (fun _ j => 0 < j) fun i j => .int (i % j)) := opI fun i j _ _ _ _ _ hc q => by
 have h1 : (0 : Int) < j := hc
 exact mod_int' (by omega) (by rw [Int.fmod_eq_emod_of_nonneg i (by omega)]; exact q)
theorem unI {f : Value → Sem Value} {g : Int → Int}
  (rule : ∀ (i : Int) (t : Tok) (s : Shared) (Q : Value → Shared → Prop) (E : Value → Shared → Prop),Q (.int (g i) s.toks) { s with toks := s.toks + 1 } → wpAny (model X.prog X.w) X.A (f (.int i t)) Q E s) :
  UnR X f (rU fun i => .int (g i)) := by
 intro pins s σ H x v Q I rx h
 obtain ⟨i,rfl,q⟩ := h
 obtain ⟨t,rfl⟩ := rx
 exact rule i t s _ _ ⟨.int (g i),H,I.tok _,⟨_,rfl⟩,q⟩
theorem un_neg : UnR X (unaryOp .USub) (rU fun i => .int (-i)) := unI fun _ _ _ _ _ q => neg_int q
end
def scal : V → V → Bool
 | .non,.non => true | .non,.int _ => true | .int _,.non => true | .non,.bl _ => true | .bl _,.non => true | .non,.str _ => true | .str _,.non => true
 | .int _,.int _ => true | .bl _,.bl _ => true | .str _,.str _ => true | .byt _,.byt _ => true
 | .int _,.str _ => true | .str _,.int _ => true | .bl _,.str _ => true | .str _,.bl _ => true
 | _,_ => false
def rEq : R2 := fun x y H Q => scal x y = true ∧ Q (.bl (decide (x = y))) H
def rNe : R2 := fun x y H Q => scal x y = true ∧ Q (.bl (!decide (x = y))) H
theorem dec_int {i j : Int} : decide (V.int i = V.int j) = (i == j) := by
 rw [Bool.eq_iff_iff]
 simp
theorem dec_bl {i j : Bool} : decide (V.bl i = V.bl j) = (i == j) := by
 rw [Bool.eq_iff_iff]
 simp
theorem dec_str {i j : Str} : decide (V.str i = V.str j) = (i == j) := by
 rw [Bool.eq_iff_iff]
 simp
theorem dec_byt {i j : Array UInt8} : decide (V.byt i = V.byt j) = (i.toList == j.toList) := by
 rw [Bool.eq_iff_iff]
 cases i
 cases j
 simp
section
variable {X : Cx} {a b c : Expr} {ta tb tc : TE} {pos : Pos}
theorem fin_bl {pins : List (Addr × Obj)} {σ : St} {H : Hp} {s : Shared} {Q : VK} {k k' : Bool} (I : Inv X pins σ H s) (q : Q (.bl k) H) (e : k = k') : EP X pins σ Q (.bool k') s := by
 subst e
 exact ⟨.bl k,H,I,rfl,q⟩
theorem op_eq : OpR X (compareOp .Eq) rEq := by
 intro pins s σ H x y v u Q I rx ry h
 obtain ⟨hs,q⟩ := h
 cases x with
 | non =>
  cases rx
  cases y with
  | non => cases ry; exact PySem.EqNone.eq_none_none (fin_bl I q (by simp))
  | bl j => cases ry; exact PySem.EqNone.eq_none_bool (fin_bl I q (by simp))
  | int j => obtain ⟨t',rfl⟩ := ry; exact PySem.EqNone.eq_none_int (fin_bl I q (by simp))
  | str j => obtain ⟨t',rfl⟩ := ry; exact PySem.EqNone.eq_none_str (fin_bl I q (by simp))
  | _ => exact absurd (show false = true from hs) Bool.false_ne_true
 | bl i =>
  cases rx
  cases y with
  | non => cases ry; exact PySem.EqNone.eq_bool_none (fin_bl I q (by simp))
  | bl j => cases ry; exact eq_bool (fin_bl I q dec_bl)
  | str j => obtain ⟨t',rfl⟩ := ry; exact PySem.EqMixed.eq_bool_str (fin_bl I q (by simp))
  | _ => exact absurd (show false = true from hs) Bool.false_ne_true
 | int i =>
  obtain ⟨t,rfl⟩ := rx
  cases y with
  | non => cases ry; exact PySem.EqNone.eq_int_none (fin_bl I q (by simp))
  | int j => obtain ⟨t',rfl⟩ := ry; exact eq_int (fin_bl I q dec_int)
  | str j => obtain ⟨t',rfl⟩ := ry; exact PySem.EqMixed.eq_int_str (fin_bl I q (by simp))
  | _ => exact absurd (show false = true from hs) Bool.false_ne_true
 | str i =>
  obtain ⟨t,rfl⟩ := rx
  cases y with
  | non => cases ry; exact PySem.EqNone.eq_str_none (fin_bl I q (by simp))
  | bl j => cases ry; exact PySem.EqMixed.eq_str_bool (fin_bl I q (by simp))
  | int j => obtain ⟨t',rfl⟩ := ry; exact PySem.EqMixed.eq_str_int (fin_bl I q (by simp))
  | str j => obtain ⟨t',rfl⟩ := ry; exact eq_str (fin_bl I q dec_str)
  | _ => exact absurd (show false = true from hs) Bool.false_ne_true
 | byt i =>
  obtain ⟨t,rfl⟩ := rx
  cases y with
  | byt j => obtain ⟨t',rfl⟩ := ry; exact PySem.W.eq_bytes (fin_bl I q dec_byt)
  | _ => exact absurd (show false = true from hs) Bool.false_ne_true
 | _ => cases y <;> exact absurd (show false = true from hs) Bool.false_ne_true
theorem op_ne : OpR X (compareOp .NotEq) rNe := by
 intro pins s σ H x y v u Q I rx ry h
 obtain ⟨hs,q⟩ := h
 cases x with
 | non =>
  cases rx
  cases y with
  | non => cases ry; exact PySem.EqNone.ne_none_none (fin_bl I q (by simp))
  | bl j => cases ry; exact PySem.EqNone.ne_none_bool (fin_bl I q (by simp))
  | int j => obtain ⟨t',rfl⟩ := ry; exact PySem.EqNone.ne_none_int (fin_bl I q (by simp))
  | str j => obtain ⟨t',rfl⟩ := ry; exact PySem.EqNone.ne_none_str (fin_bl I q (by simp))
  | _ => exact absurd (show false = true from hs) Bool.false_ne_true
 | bl i =>
  cases rx
  cases y with
  | non => cases ry; exact PySem.EqNone.ne_bool_none (fin_bl I q (by simp))
  | bl j => cases ry; exact ne_bool (fin_bl I q (congrArg not dec_bl))
  | str j => obtain ⟨t',rfl⟩ := ry; exact PySem.EqMixed.ne_bool_str (fin_bl I q (by simp))
  | _ => exact absurd (show false = true from hs) Bool.false_ne_true
 | int i =>
  obtain ⟨t,rfl⟩ := rx
  cases y with
  | non => cases ry; exact PySem.EqNone.ne_int_none (fin_bl I q (by simp))
  | int j => obtain ⟨t',rfl⟩ := ry; exact ne_int (fin_bl I q (congrArg not dec_int))
  | str j => obtain ⟨t',rfl⟩ := ry; exact PySem.EqMixed.ne_int_str (fin_bl I q (by simp))
  | _ => exact absurd (show false = true from hs) Bool.false_ne_true
 | str i =>
  obtain ⟨t,rfl⟩ := rx
  cases y with
  | non => cases ry; exact PySem.EqNone.ne_str_none (fin_bl I q (by simp))
  | bl j => cases ry; exact PySem.EqMixed.ne_str_bool (fin_bl I q (by simp))
  | int j => obtain ⟨t',rfl⟩ := ry; exact PySem.EqMixed.ne_str_int (fin_bl I q (by simp))
  | str j => obtain ⟨t',rfl⟩ := ry; exact ne_str (fin_bl I q (congrArg not dec_str))
  | _ => exact absurd (show false = true from hs) Bool.false_ne_true
 | byt i =>
  obtain ⟨t,rfl⟩ := rx
  cases y with
  | byt j => obtain ⟨t',rfl⟩ := ry; exact PySem.W.ne_bytes (fin_bl I q (congrArg not dec_byt))
  | _ => exact absurd (show false = true from hs) Bool.false_ne_true
 | _ => cases y <;> exact absurd (show false = true from hs) Bool.false_ne_true
theorem op_lt : OpR X (compareOp .Lt) (rI0 fun i j => .bl (decide (i < j))) := opB0 fun _ _ _ _ _ _ _ q => lt_int q
theorem op_le : OpR X (compareOp .LtE) (rI0 fun i j => .bl (decide (i ≤ j))) := opB0 fun _ _ _ _ _ _ _ q => le_int q
theorem op_gt : OpR X (compareOp .Gt) (rI0 fun i j => .bl (decide (j < i))) := opB0 fun _ _ _ _ _ _ _ q => gt_int q
theorem op_ge : OpR X (compareOp .GtE) (rI0 fun i j => .bl (decide (j ≤ i))) := opB0 fun _ _ _ _ _ _ _ q => ge_int q
theorem op_isN : OpR X (compareOp .Is) (fun x y H Q => y = .non ∧ Q (.bl (decide (x = .non))) H) := by
 intro pins s σ H x y v u Q I rx ry h
 obtain ⟨rfl,q⟩ := h
 cases ry
 refine is_none_gen (fin_bl I q ?_)
 cases x <;> first
  | (cases rx; rfl)
  | (obtain ⟨t,rfl⟩ := rx; rfl)
theorem nomark (b : Expr) {op : CmpOp} (h : op ≠ .In := by decide) (h2 : op ≠ .NotIn := by decide) : behindInMarks op b = false := by
 have e1 : (op == CmpOp.In) = false := by cases op <;> first | rfl | exact absurd rfl h
 have e2 : (op == CmpOp.NotIn) = false := by cases op <;> first | rfl | exact absurd rfl h2
 cases b <;> simp [behindInMarks,e1,e2]
theorem pe_cmpR {op : CmpOp} {r : R2} (ho : OpR X (compareOp op) r) (ha : PE X a ta) (hb : PE X b tb) (hm : behindInMarks op b = false) : PE X (.Compare a [op] [b] pos) (tOp r ta tb) := by
 intro pins s σ H Q I h
 exact wpAny_Compare1 (binT ha hb I h fun v u s2 x y H2 I2 rx ry q => ho pins s2 σ H2 x y v u Q I2 rx ry q) hm
def tTest (t : TE) : TT := fun σ H Q => t σ H fun x H' => ∃ k,x = .bl k ∧ Q k H'
theorem pt_cmpR {op : CmpOp} {r : R2} (ho : OpR X (compareOp op) r) (ha : PE X a ta) (hb : PE X b tb) (hm : behindInMarks op b = false) : PT X (.Compare a [op] [b] pos) (tTest (tOp r ta tb)) := by
 intro pins s σ H Q I h
 refine wpAny_isTrue_Compare1 (thn (ha pins s σ H _ I h) fun v s1 ⟨x,H1,I1,r1,q1⟩ => thn (hb pins s1 σ H1 _ I1 q1) fun u s2 ⟨y,H2,I2,r2,q2⟩ =>
  thn (ho pins s2 σ H2 x y v u _ I2 r1 r2 q2) fun c s3 ⟨z,H3,I3,r3,k,e,q3⟩ => ?_) hm
 subst e
 cases r3
 exact wpAny_truthy_bool ⟨H3,I3,q3⟩
def tChain (r r' : R2) (ta tb tc : TE) : TE := fun σ H Q => ta σ H fun x H1 => tb σ H1 fun y H2 => r x y H2 fun z H3 => ∃ k,z = .bl k ∧
 (if k = true then tc σ H3 fun w' H4 => r' y w' H4 Q else Q (.bl false) H3)
theorem pe_chain {op op' : CmpOp} {r r' : R2} (ho : OpR X (compareOp op) r) (ho' : OpR X (compareOp op') r') (ha : PE X a ta) (hb : PE X b tb) (hc : PE X c tc)
  (hm : lastMarks [op,op'] [b,c] = false := by with_unfolding_all rfl) : PE X (.Compare a [op,op'] [b,c] pos) (tChain r r' ta tb tc) := by
 intro pins s σ H Q I h
 refine Compare_chain (thn (ha pins s σ H _ I h) fun v s1 ⟨x,H1,I1,r1,q1⟩ => chain_link (thn (hb pins s1 σ H1 _ I1 q1) fun u s2 ⟨y,H2,I2,r2,q2⟩ =>
  thn (ho pins s2 σ H2 x y v u _ I2 r1 r2 q2) fun d s3 ⟨z,H3,I3,r3,k,e,q3⟩ => ?_)) hm
 subst e
 cases r3
 refine wpAny_truthy_bool ?_
 cases k with
 | false => exact ite_ff ⟨.bl false,H3,I3,rfl,q3⟩
 | true => exact ite_tt (chain_last (thn (hc pins s3 σ H3 _ I3 q3) fun w' s4 ⟨z',H4,I4,r4,q4⟩ => ho' pins s4 σ H4 y z' u w' Q I4 r2 r4 q4))
theorem pt_chain {op op' : CmpOp} {r r' : R2} (ho : OpR X (compareOp op) r) (ho' : OpR X (compareOp op') r') (ha : PE X a ta) (hb : PE X b tb) (hc : PE X c tc)
  (hm : lastMarks [op,op'] [b,c] = false := by with_unfolding_all rfl) : PT X (.Compare a [op,op'] [b,c] pos) (tTest (tChain r r' ta tb tc)) := by
 intro pins s σ H Q I h
 refine isTrue_chain (thn (ha pins s σ H _ I h) fun v s1 ⟨x,H1,I1,r1,q1⟩ => test_link (thn (hb pins s1 σ H1 _ I1 q1) fun u s2 ⟨y,H2,I2,r2,q2⟩ =>
  thn (ho pins s2 σ H2 x y v u _ I2 r1 r2 q2) fun d s3 ⟨z,H3,I3,r3,k,e,q3⟩ => ?_)) hm
 subst e
 cases r3
 refine wpAny_truthy_bool ?_
 cases k with
 | false =>
  obtain ⟨k',e',q'⟩ := q3
  cases e'
  exact ite_ff ⟨H3,I3,q'⟩
 | true =>
  refine ite_tt (test_last (thn (hc pins s3 σ H3 _ I3 q3) fun w' s4 ⟨z',H4,I4,r4,q4⟩ => thn (ho' pins s4 σ H4 y z' u w' _ I4 r2 r4 q4) fun d' s5 ⟨z2,H5,I5,r5,k2,e2,q5⟩ => ?_))
  subst e2
  cases r5
  exact wpAny_truthy_bool ⟨H5,I5,q5⟩
def TruV (K : PySem.W.Frag) (x : V) (H : Hp) (k : Bool) : Prop :=
 match x with
 | .non => k = false
 | .bl b => k = b
 | .int i => k = (i != 0)
 | .str y => y.length ≤ sizeLine ∧ k = ((y.length : Int) != 0)
 | .byt y => y.size ≤ sizeLine ∧ k = ((y.size : Int) != 0)
 | .ref p => (∃ xs,SqL K H p xs ∧ k = !xs.isEmpty) ∨ (∃ xs,SqT K H p xs ∧ k = !xs.isEmpty) ∨ ∃ kvs,H p = some (.dK kvs) ∧ k = !kvs.isEmpty
 | _ => False
theorem isEmpty_kv {κ : Type} {kvs : List (κ × V)} {vs : List (κ × Value)} (r : KV kvs vs) : (!vs.isEmpty) = !kvs.isEmpty := by
 cases r <;> rfl
theorem isEmpty_of {xs : List V} {its : List Value} (r : Vals xs its) : (!its.toArray.isEmpty) = !xs.isEmpty := by
 cases r <;> simp
theorem line63 : (sizeLine : Nat) < 2 ^ 63 := by rw [sizeLine_eq]; decide
theorem tru_ok : TruR X (fun x H Q => ∃ k,TruV X.K x H k ∧ Q k H) := by
 intro pins s σ H x v Q I rx h
 obtain ⟨k,e,q⟩ := h
 have hl := line63
 have hs : sizeLine = 16777216 := sizeLine_eq
 cases x with
 | non =>
  cases rx
  have e' : k = false := e
  subst e'
  exact truthy_none ⟨H,I,q⟩
 | bl b =>
  cases rx
  have e' : k = b := e
  subst e'
  exact wpAny_truthy_bool ⟨H,I,q⟩
 | int i =>
  obtain ⟨t,rfl⟩ := rx
  have e' : k = (i != 0) := e
  subst e'
  exact PySem.P.truthy_int ⟨H,I,q⟩
 | str y =>
  obtain ⟨t,rfl⟩ := rx
  obtain ⟨hy,e'⟩ : y.length ≤ sizeLine ∧ k = ((y.length : Int) != 0) := e
  subst e'
  exact PySem.P.truthy_str (by omega) ⟨H,I.tok _,q⟩
 | byt y =>
  obtain ⟨t,rfl⟩ := rx
  obtain ⟨hy,e'⟩ : y.size ≤ sizeLine ∧ k = ((y.size : Int) != 0) := e
  subst e'
  exact PySem.W.truthy_bytes (by omega) ⟨H,I.tok _,q⟩
 | ref p =>
  cases rx
  have e' : (∃ xs,SqL X.K H p xs ∧ k = !xs.isEmpty) ∨ (∃ xs,SqT X.K H p xs ∧ k = !xs.isEmpty) ∨ ∃ kvs,H p = some (.dK kvs) ∧ k = !kvs.isEmpty := e
  rcases e' with ⟨xs,hx,e'⟩ | ⟨xs,hx,e'⟩ | ⟨kvs,hx,e'⟩
  ·subst e'
   obtain ⟨its,r,pl,hz⟩ := I.list hx
   have hlen := r.length
   exact wpAny_truthy_list pl.isList (by simp only [List.size_toArray]; omega) ⟨H,I.tok _,by rw [isEmpty_of r]; exact q⟩
  ·subst e'
   obtain ⟨its,r,pl,hz⟩ := I.tuple hx
   have hlen := r.length
   exact truthy_tuple pl (by simp only [List.size_toArray]; omega) ⟨H,I.tok _,by rw [isEmpty_of r]; exact q⟩
  ·subst e'
   obtain ⟨hz,hS,vs,r,m⟩ : kvs.length ≤ sizeLine ∧ (p == sysModules) = false ∧ ∃ vs,KV kvs vs ∧ s.heap.DictOf (mixKind X.prog X.w) p vs := I.hok p _ hx
   have hlen : kvs.length = vs.length := Paired.length r
   exact wpAny_truthy_dict hS m (by omega) ⟨H,I.tok _,by rw [isEmpty_kv r]; exact q⟩
 | _ => exact (show False from e).elim
theorem pt_truth (ha : PE X a ta) (he : ∀ whole,isTrue a X.env whole = (do let v ← whole; standAt a.pos; holding [v] (truthy v))) :
  PT X a (fun σ H Q => ta σ H fun x H' => ∃ k,TruV X.K x H' k ∧ Q k H') := by
 intro pins s σ H Q I h
 exact isTrue_plain (thn (ha pins s σ H _ I h) fun v s1 ⟨x,H1,I1,r1,q1⟩ => tru_ok pins s1 σ H1 x v Q I1 r1 q1) (he _)
theorem vals1 {x : V} {us : List Value} (r : Vals [x] us) : ∃ u,us = [u] ∧ RelV x u := by
 cases r with
 | cons r1 r2 => cases r2; exact ⟨_,rfl,r1⟩
theorem call_abs : CallR X (.builtin "abs") (fun xs H Q => ∃ i,xs = [.int i] ∧ Q (.int (if i < 0 then -i else i)) H) := by
 intro pins s σ H xs us Q I r h
 obtain ⟨i,rfl,q⟩ := h
 obtain ⟨u,rfl,t,rfl⟩ := vals1 r
 exact call_abs_int fun u tk => ⟨.int (if i < 0 then -i else i),H,I.tok _,⟨_,rfl⟩,q⟩
end
end L2
namespace L2
open PySem PySem.Spec PyProof.Rows
structure ObjM (h : Heap) (x dx C : Addr) (mA : Str → Option Value) : Prop where
 obj : h.get? x = some (PySem.W.instObj C dx)
 ns : h.Ns1 dx mA
 ne : dx ≠ x
theorem lookIn_ns {h : Heap} {dx : Addr} {mA : Str → Option Value} (n : h.Ns1 dx mA) : ∃ od,h.get? dx = some od ∧ ∀ name,PySem.W.lookIn name od = some (mA name) := by
 obtain ⟨o,es,ep,ho,hd,hk,_,hm⟩ := n
 refine ⟨o,ho,fun name => ?_⟩
 have e := hm name
 unfold nsFind findBy at e
 rw [← Array.find?_toList] at e
 unfold PySem.W.lookIn
 rw [hd]
 dsimp only
 split
 ·rename_i y q
  rw [q] at e
  exact congrArg some e
 ·rename_i q
  rw [q] at e
  have a : es.toList.any (·.refKey) = false := by
   rw [List.any_eq_false]
   intro y hy
   obtain ⟨z,t,hkey⟩ := hk y (Array.mem_toList_iff.mp hy)
   simp [DictEntry.refKey,hkey]
  have a' : ¬ es.toList.any (·.refKey) = true := by rw [a]; exact Bool.false_ne_true
  rw [if_neg a']
  exact congrArg some e
theorem ObjM.look {h : Heap} {x dx C : Addr} {mA : Str → Option Value} (I : ObjM h x dx C mA) : ∃ od,PySem.W.InstAt h x (PySem.W.instObj C dx) C (some od) ∧ ∀ name,PySem.W.lookIn name od = some (mA name) :=
 let ⟨od,ho,hl⟩ := lookIn_ns I.ns
 ⟨od,⟨I.obj,rfl,rfl,ho⟩,hl⟩
section
variable {prog : Program} {w : World} {A : Around} {E : Value → Shared → Prop} {s : Shared} {K : PySem.W.Frag} {x dx C f : Addr} {mA : Str → Option Value} {name : Str} {v : Value}
theorem get_map {expr : Bool} {Q : Value → Shared → Prop} (X : K.In s.heap) (I : ObjM s.heap x dx C mA) (hg : PySem.W.plainGet K C name = true) (hh : PySem.W.hasDictIn K C = true)
  (ha : PySem.W.findIn K (.ref C) name = some none) (hv : mA name = some v) (hv' : PySem.W.handedIn v = true) (h : Q v { s with toks := s.toks + 1 }) :
  wpAny (model prog w) A (getAttr (.ref x) name expr) Q E s := by
 obtain ⟨od,J,hl⟩ := I.look
 exact PySem.W.get_value X J (PySem.W.plainGet_of hg).1 (PySem.W.findObj_own hh ha rfl (by rw [hl,hv])) hv' h
theorem get_meth {pl : Sem Bool} {Q : Value × List Value → Shared → Prop} (X : K.In s.heap) (I : ObjM s.heap x dx C mA) (hg : PySem.W.plainGet K C name = true)
  (hf : PySem.W.findIn K (.ref C) name = some (some (.ref f))) (ht : PySem.W.isFn K (.ref f) = true) (hv : mA name = none) (h : Q (.ref f,[.ref x]) s) :
  wpAny (model prog w) A (getMethod (.ref x) name pl) Q E s := by
 obtain ⟨od,J,hl⟩ := I.look
 exact PySem.W.method_fn X J (PySem.W.plainGet_of hg).1 (PySem.W.plainGet_of hg).2 hf (beq_iff_eq.mp ht) (by show (PySem.W.lookIn name od).map (·.isSome) = some false; rw [hl,hv]; rfl) h
theorem set_map {ns : List Str} {Q : Unit → Shared → Prop} (X : K.In s.heap) (I : ObjM s.heap x dx C mA)
  (hs : PySem.W.findIn K (.ref C) "__setattr__" = some (some (.builtin "object.__setattr__"))) (hp : PySem.W.plainOver K C = true) (ht : PySem.W.takerIn K C name = some none) (hh : PySem.W.hasDictIn K C = true)
  (hw : PySem.Within mA ns) (hsz : ns.length ≤ sizeLine)
  (h : ∀ h',ObjM h' x dx C (fun y => if y = name then some v else mA y) → Heap.SameBut dx s.heap h' → Q () { s with heap := h',toks := s.toks + 2 }) :
  wpAny (model prog w) A (setAttr (.ref x) name v) Q E s := by
 obtain ⟨od,J,hl⟩ := I.look
 refine PySem.W.set_plain X J hs (PySem.W.osa_open (s := { s with toks := s.toks + 1 }) (r := none) X J hp ht fun b => ?_)
 obtain ⟨cd,hc,hd'⟩ := PySem.W.any_some hh
 have hx : s.heap.get? x = some ⟨.ref C,some dx,.plain,#[]⟩ := I.obj
 refine wpAny_bind (wpAny_pure (wpAny_bind (wpAny_bind (wpAny_loadPart hx (wpAny_bind (PySem.W.Looks.here (s := { s with toks := s.toks + 1 }) (PySem.W.looks_clsIn X hc) ?_))))))
 rw [hd']
 refine wpAny_pure (a := some dx) (wpAny_bind (wpAny_pure (wpAny_bind ?_)))
 refine wpAny_nsSet1 (s := { s with toks := s.toks + 1 }) I.ns fun h' hn2 hs2 => ?_
 obtain ⟨oD,esD,epD,hoD,hdD,hcD⟩ := hn2.count (PySem.Within.cons name v hw)
 refine wpAny_bind (wpAny_lookBehind hoD (by rw [hdD]; exact pastItsLine_dict (Nat.le_trans hcD (by rw [List.length_cons]; omega))) ?_)
 exact wpAny_pure (h _ ⟨(hs2.2 _ (Ne.symm I.ne)).trans I.obj,hn2,I.ne⟩ hs2)
theorem make_map {R : Result → Shared → Prop} {vs : List Value} {kw : List (Str × Value)} (X : K.In s.heap) (hm : PySem.W.makesIn K C = true)
  (hi : PySem.W.findIn K (.ref C) "__init__" = some (some (.ref f))) (hf : PySem.W.typeIn K (.ref f) = some (.type "function"))
  (h : codeAny (model prog w) (A.under (.builtin "type.__call__" ⟨.ref C :: vs,kw⟩)) (.call (.ref f) ⟨.ref (s.heap.objs.size + 1) :: vs,kw⟩) (PySem.W.InitBack (s.heap.objs.size + 1) R)
   { s with heap := (s.heap.push PySem.W.emptyDict).push (PySem.W.instObj C s.heap.objs.size) }) :
  codeAny (model prog w) A (.call (.ref C) ⟨vs,kw⟩) R s := by
 obtain ⟨hh,g,d,t,os⟩ := s
 exact PySem.W.make_core (PySem.W.makes_of X hm) (PySem.W.looks_findIn X hi) (fun self => PySem.W.bind_fn X self hf) (.inl rfl) h
end
def putF (f : Str) (v : V) : List (Str × V) → List (Str × V)
 | [] => [(f,v)]
 | (g,x) :: r => if g = f then (g,v) :: r else (g,x) :: putF f v r
theorem lookup_putF (f g : Str) (v : V) : ∀ fs : List (Str × V),(putF f v fs).lookup g = if g = f then some v else fs.lookup g
 | [] => by
  show List.lookup g [(f,v)] = _
  by_cases h : g = f
  ·have hb : (g == f) = true := beq_iff_eq.mpr h
   simp only [List.lookup,hb,if_pos h]
  ·have hb : (g == f) = false := beq_eq_false_iff_ne.mpr h
   simp only [List.lookup,hb,if_neg h]
 | (k,x) :: r => by
  have ih := lookup_putF f g v r
  rw [show putF f v ((k,x) :: r) = (if k = f then (k,v) :: r else (k,x) :: putF f v r) from rfl]
  by_cases hk : k = f
  ·rw [if_pos hk]
   by_cases h : g = k
   ·have hb : (g == k) = true := beq_iff_eq.mpr h
    simp only [List.lookup,hb,if_pos (h.trans hk)]
   ·have hb : (g == k) = false := beq_eq_false_iff_ne.mpr h
    simp only [List.lookup,hb,if_neg (fun e : g = f => h (e.trans hk.symm))]
  ·rw [if_neg hk]
   by_cases h : g = k
   ·have hb : (g == k) = true := beq_iff_eq.mpr h
    simp only [List.lookup,hb,if_neg (fun e : g = f => hk (h.symm.trans e))]
   ·have hb : (g == k) = false := beq_eq_false_iff_ne.mpr h
    simp only [List.lookup,hb]
    exact ih
theorem keys_putF (f : Str) (v : V) : ∀ fs : List (Str × V),f ∈ (putF f v fs).map (·.1) ∧ ∀ g,g ∈ fs.map (·.1) → g ∈ (putF f v fs).map (·.1)
 | [] => ⟨by simp [putF],fun g h => by simp at h⟩
 | (k,x) :: r => by
  obtain ⟨i1,i2⟩ := keys_putF f v r
  rw [show putF f v ((k,x) :: r) = (if k = f then (k,v) :: r else (k,x) :: putF f v r) from rfl]
  by_cases hk : k = f
  ·rw [if_pos hk]
   subst hk
   exact ⟨by simp,fun g h => by simpa using h⟩
  ·rw [if_neg hk]
   refine ⟨?_,fun g h => ?_⟩
   ·rw [List.map_cons]
    exact List.mem_cons_of_mem _ i1
   ·rw [List.map_cons] at h ⊢
    rcases List.mem_cons.mp h with e | e
    ·exact List.mem_cons.mpr (.inl e)
    ·exact List.mem_cons_of_mem _ (i2 g e)
theorem length_putF (f : Str) (v : V) : ∀ fs : List (Str × V),(putF f v fs).length ≤ fs.length + 1
 | [] => by simp [putF]
 | (k,x) :: r => by
  have ih := length_putF f v r
  rw [show putF f v ((k,x) :: r) = (if k = f then (k,v) :: r else (k,x) :: putF f v r) from rfl]
  by_cases hk : k = f
  ·rw [if_pos hk,List.length_cons,List.length_cons]; omega
  ·rw [if_neg hk,List.length_cons,List.length_cons]; omega
theorem RelO.some_of {v : V} {o : Option Value} (r : RelO (some v) o) : ∃ u,o = some u ∧ RelV v u := by
 cases o with
 | none => exact (show False from r).elim
 | some u => exact ⟨u,rfl,r⟩
theorem RelO.none_of {o : Option Value} (r : RelO none o) : o = none := by
 cases o with
 | none => rfl
 | some u => exact (show False from r).elim
theorem handed_of {v : V} {u : Value} (r : RelV v u) : PySem.W.handedIn u = true := by
 cases v with
 | non => cases (show u = Value.none from r); rfl
 | bl b => cases (show u = Value.bool b from r); rfl
 | int i => obtain ⟨t,e⟩ := (show ∃ t,u = Value.int i t from r); cases e; rfl
 | str x => obtain ⟨t,e⟩ := (show ∃ t,u = Value.str x t from r); cases e; rfl
 | byt b => obtain ⟨t,e⟩ := (show ∃ t,u = Value.bytes b t from r); cases e; rfl
 | flt b => obtain ⟨t,e⟩ := (show ∃ t,u = Value.float b t from r); cases e; rfl
 | ref a => cases (show u = Value.ref a from r); rfl
 | ty n => cases (show u = Value.type n from r); rfl
section
variable {P : Program} {w : World} {H H' : Hp} {h h' : Heap} {a C dx : Addr} {fs fs' : List (Str × V)}
theorem ins_get (hok : HOk P w H h) (e : H a = some (.ins C dx fs)) : ∃ mA,ObjM h a dx C mA ∧ (∀ f,RelO (fs.lookup f) (mA f)) ∧ PySem.Within mA (fs.map (·.1)) ∧ fs.length ≤ 1000 ∧ H dx = some (.own a) := by
 obtain ⟨d,z,ne,ob,mA,n,r,q⟩ := (show ObjOk P w H h a (.ins C dx fs) from hok a _ e)
 exact ⟨mA,⟨ob,n,ne⟩,r,q,z,d⟩
end
structure Cls (K : PySem.W.Frag) (C : Addr) : Prop where
 pg : PySem.W.plainGet K C Str.empty = true
 hd : PySem.W.hasDictIn K C = true
 po : PySem.W.plainOver K C = true
 sa : PySem.W.findIn K (.ref C) "__setattr__" = some (some (.builtin "object.__setattr__"))
theorem Cls.get {K : PySem.W.Frag} {C : Addr} (c : Cls K C) (f : Str) : PySem.W.plainGet K C f = true := c.pg
def NoAttr (K : PySem.W.Frag) (C : Addr) (f : Str) : Prop := PySem.W.findIn K (.ref C) f = some none
theorem NoAttr.taker {K : PySem.W.Frag} {C : Addr} {f : Str} (n : NoAttr K C f) : PySem.W.takerIn K C f = some none := by
 unfold PySem.W.takerIn
 rw [show PySem.W.findIn K (.ref C) f = some none from n]
 rfl
structure Meth (K : PySem.W.Frag) (C : Addr) (m : Str) (f : Addr) : Prop where
 at_ : PySem.W.findIn K (.ref C) m = some (some (.ref f))
 fn : PySem.W.isFn K (.ref f) = true
 kp : PySem.W.keepIn K (.ref f) = true
section
variable {X : Cx} {pins : List (Addr × Obj)} {σ : St} {H : Hp} {s : Shared} {a C dx : Addr} {fs : List (Str × V)} {f : Str} {v : V} {A : Around} {E : Value → Shared → Prop}
theorem getattr_ok {b : Bool} {Q : Value → Shared → Prop} (I : Inv X pins σ H s) (e : H a = some (.ins C dx fs)) (c : Cls X.K C) (n : NoAttr X.K C f) (l : fs.lookup f = some v)
  (h : ∀ u s',Inv X pins σ H s' → RelV v u → Q u s') : wpAny (model X.prog X.w) A (getAttr (.ref a) f b) Q E s := by
 obtain ⟨mA,O,r,_,_,_⟩ := ins_get I.hok e
 obtain ⟨u,hu,ru⟩ := RelO.some_of (v := v) (o := mA f) (by rw [← l]; exact r f)
 exact get_map I.kIn O (c.get f) c.hd n hu (handed_of ru) (h u _ (I.tok _) ru)
theorem getmeth_ok {m : Str} {g : Addr} {pl : Sem Bool} {Q : Value × List Value → Shared → Prop} (I : Inv X pins σ H s) (e : H a = some (.ins C dx fs)) (c : Cls X.K C) (k : Meth X.K C m g) (l : fs.lookup m = none)
  (h : Q (.ref g,[.ref a]) s) : wpAny (model X.prog X.w) A (getMethod (.ref a) m pl) Q E s := by
 obtain ⟨mA,O,r,_,_,_⟩ := ins_get I.hok e
 have hn : mA m = none := RelO.none_of (by rw [← l]; exact r m)
 exact get_meth I.kIn O (c.get m) k.at_ k.fn hn h
theorem setattr_ok {y : V} {u : Value} {Q : Unit → Shared → Prop} (I : Inv X pins σ H s) (e : H a = some (.ins C dx fs)) (c : Cls X.K C) (n : NoAttr X.K C f) (hl : fs.length < 1000) (ry : RelV y u)
  (h : ∀ s',Inv X pins σ (upd H a (.ins C dx (putF f y fs))) s' → Q () s') : wpAny (model X.prog X.w) A (setAttr (.ref a) f u) Q E s := by
 obtain ⟨mA,O,r,wi,_,ho⟩ := ins_get I.hok e
 have hz : (fs.map (·.1)).length ≤ sizeLine := by rw [List.length_map,sizeLine_eq]; omega
 refine set_map I.kIn O c.sa c.po n.taker c.hd wi hz fun h' O' sb => h _ ?_
 have hd : ∃ o,h'.get? dx = some o := let ⟨o,_,_,e',_⟩ := O'.ns; ⟨o,e'⟩
 refine I.write (x := a) (e := dx) (by rw [e]; exact True.intro) (.inr ho) (fun b q hb z => (sb.2 b hb).trans z) hd ?_
 refine ⟨by rw [upd_ne O.ne]; exact ho,?_,O.ne,O'.obj,_,O'.ns,fun g => ?_,fun g hg => ?_⟩
 ·have := length_putF f y fs; omega
 ·show RelO ((putF f y fs).lookup g) (if g = f then some u else mA g)
  rw [lookup_putF]
  by_cases q : g = f
  ·rw [if_pos q,if_pos q]; exact ry
  ·rw [if_neg q,if_neg q]; exact r g
 ·by_cases q : g = f
  ·rw [q]; exact (keys_putF f y fs).1
  ·refine (keys_putF f y fs).2 g (wi g fun z => hg ?_)
   show (if g = f then some u else mA g) = none
   rw [if_neg q]; exact z
theorem Inv.made (I : Inv X pins σ H s) : Inv X pins σ (upd (upd H s.heap.objs.size (.own (s.heap.objs.size + 1))) (s.heap.objs.size + 1) (.ins C s.heap.objs.size []))
  { s with heap := (s.heap.push PySem.W.emptyDict).push (PySem.W.instObj C s.heap.objs.size) } := by
 have e1 : (s.heap.push PySem.W.emptyDict).get? s.heap.objs.size = some PySem.W.emptyDict := Heap.get?_push_size s.heap rfl
 have e2 : ((s.heap.push PySem.W.emptyDict).push (PySem.W.instObj C s.heap.objs.size)).get? (s.heap.objs.size + 1) = some (PySem.W.instObj C s.heap.objs.size) := by
  have := Heap.get?_push_size (s.heap.push PySem.W.emptyDict) (o := PySem.W.instObj C s.heap.objs.size) rfl
  rwa [Heap.size_push] at this
 have e3 : (s.heap.push PySem.W.emptyDict).Ns s.heap.objs.size (fun _ => none) := ⟨PySem.W.emptyDict,#[],_,e1,rfl,(fun e he => absurd he (by simp)),fun _ => rfl⟩
 have I1 := I.laid (a := s.heap.objs.size) (o := .own (s.heap.objs.size + 1)) (h' := s.heap.push PySem.W.emptyDict) (t' := s.toks) (fun b u q => Heap.get?_push_of_some _ q) (Nat.le_refl _) ⟨_,e1⟩
 refine I1.laid (a := s.heap.objs.size + 1) (o := .ins C s.heap.objs.size []) (t' := s.toks) (fun b u q => Heap.get?_push_of_some _ q) (Nat.le_of_eq (Heap.size_push _ _)) ?_
 have ne : s.heap.objs.size ≠ s.heap.objs.size + 1 := Nat.ne_of_lt (Nat.lt_succ_self _)
 refine ⟨by rw [upd_ne ne,upd_same],Nat.zero_le _,ne,e2,fun _ => none,(Heap.Ns1.of_empty e3).at fun o q => Heap.get?_push_of_some _ q,fun _ => True.intro,fun y hy => absurd rfl hy⟩
theorem attr_of {prog : Program} {w : World} {env : Env} {e : Expr} {f : Str} {pos : Pos} {s : Shared} {Q : Value → Shared → Prop} (hb : attributeBase e f env (eval e env) = eval e env)
  (h : wpAny (model prog w) A (eval e env) (fun o s₁ => wpAny (model prog w) A (getAttr o f true) Q E s₁) E s) : wpAny (model prog w) A (eval (.Attribute e f pos) env) Q E s :=
 Attribute_any_ h (by rw [arm_eval_Attribute,hb])
end
def tFld (K : PySem.W.Frag) (ta : TE) (f : Str) : TE := fun σ H Q => ta σ H fun x H1 => ∃ a C dx fs v,x = .ref a ∧ H1 a = some (.ins C dx fs) ∧ Cls K C ∧ NoAttr K C f ∧ fs.lookup f = some v ∧ Q v H1
def sFld (K : PySem.W.Frag) (ta tv : TE) (f : Str) : TS := fun D σ H => tv σ H fun y H1 => ta σ H1 fun x H2 => ∃ a C dx fs,x = .ref a ∧ H2 a = some (.ins C dx fs) ∧ Cls K C ∧ NoAttr K C f ∧ fs.length < 1000 ∧
 D.nx σ (upd H2 a (.ins C dx (putF f y fs)))
section
variable {X : Cx} {o e value : Expr} {f : Str} {pos pos' tpos : Pos} {ta tv : TE}
theorem pe_fld (he : PE X e ta) (hb : attributeBase e f X.env (eval e X.env) = eval e X.env) : PE X (.Attribute e f pos) (tFld X.K ta f) := by
 intro pins s σ H Q I h
 refine attr_of hb (thn (he pins s σ H _ I h) fun u s1 ⟨x,H1,I1,rx,a,C,dx,fs,v,ex,ea,c,n,l,q⟩ => ?_)
 subst ex
 obtain rfl : u = Value.ref a := rx
 exact getattr_ok I1 ea c n l fun u' s2 I2 ru => ⟨v,H1,I2,ru,q⟩
theorem ps_fld (ha : PE X o ta) (hv : PE X value tv) (hs : swapsWith value (some (.Attribute o f pos')) pos.line X.env = pure false) : PS X (.Assign [.Attribute o f pos'] value pos) (sFld X.K ta tv f) := by
 intro pins s σ H D I h
 refine plainObj_wpAny_Assign_Attribute (thn (hv pins s σ H _ I h) fun u s1 ⟨y,H1,I1,ry,q⟩ => thn (ha pins s1 σ H1 _ I1 q) fun ov s2 ⟨x,H2,I2,rx,a,C,dx,fs,ex,ea,c,n,l,q2⟩ => ?_) hs
 subst ex
 obtain rfl : ov = Value.ref a := rx
 exact setattr_ok I2 ea c n l ry fun s3 I3 => ⟨σ,_,I3,q2⟩
theorem methcall_of {pl : Sem Bool} {m : Str} {apos : Pos} {args : List Expr} {pins : List (Addr × Obj)} {s : Shared} {σ : St} {H : Hp} {Q : Value → Shared → Prop} {te : TE} (he : PE X e te) (I : Inv X pins σ H s)
  (h : te σ H fun x H1 => ∃ a C dx fs g,x = .ref a ∧ H1 a = some (.ins C dx fs) ∧ Cls X.K C ∧ Meth X.K C m g ∧ fs.lookup m = none ∧
   ∀ s1,Inv X pins σ H1 s1 → wpAny (model X.prog X.w) X.A (callWith pos (.ref g) [.ref a] (backTo pos (starEach args X.env)) (backToKw pos (keywordEach [] X.env))) Q X.xe s1)
  (ht : eval (.Call (.Attribute e m apos) args [] pos) X.env = (do
   let ov ← eval e X.env
   standAt apos.atName
   let (f,first) ← holding [ov] (getMethod ov m pl)
   callWith pos f first (backTo pos (starEach args X.env)) (backToKw pos (keywordEach [] X.env)))) :
  wpAny (model X.prog X.w) X.A (eval (.Call (.Attribute e m apos) args [] pos) X.env) Q X.xe s := by
 refine PySem.W.methodCall_KW (pl := pl) (thn (he pins s σ H _ I h) fun u s1 ⟨x,H1,I1,rx,a,C,dx,fs,g,ex,ea,c,k,l,q⟩ => ?_) ht
 subst ex
 obtain rfl : u = Value.ref a := rx
 exact getmeth_ok I1 ea c k l (q s1 I1)
end
section
variable {X : Cx} {pins : List (Addr × Obj)} {σ : St} {H : Hp} {s : Shared} {A : Around} {E : Value → Shared → Prop} {Q : Value → Shared → Prop} {c : Value} {b : Bool}
end
end L2
namespace L2
open PySem PySem.Spec PyProof.Rows
structure Room (k : Nat) (A : Around) : Prop where
 hd : A.handled = none
 dp : A.depth + 3 * k + 5 < recursionLimit
 un : A.units + 16 * k + 200 < cLine
theorem Room.mono {j k : Nat} {A : Around} (r : Room k A) (h : j ≤ k) : Room j A := ⟨r.hd,by have := r.dp; omega,by have := r.un; omega⟩
theorem Room.deeper {k : Nat} {A : Around} (r : Room (k + 1) A) (env : Env) : Room k (A.deeper env) :=
 ⟨r.hd,by have := r.dp; show A.depth + 1 + 3 * k + 5 < _; omega,by have := r.un; show A.units + 3 + 16 * k + 200 < _; omega⟩
theorem make_depth {A : Around} {C : Addr} {us : List Value} {kw : List (Str × Value)} : (A.under (.builtin "type.__call__" ⟨.ref C :: us,kw⟩)).depth = A.depth + 1 := by
 first | rfl | simp [Around.under,Code.weight,Code.isCreation,Code.isGuard,Code.isCaller,Code.frames,Code.isFrame,guardIds]
theorem make_units {A : Around} {C : Addr} {us : List Value} {kw : List (Str × Value)} : (A.under (.builtin "type.__call__" ⟨.ref C :: us,kw⟩)).units = A.units + 1 := by
 first | rfl | simp [Around.under,Code.cUnits,Code.frames,Code.isFrame]
theorem Room.make {k : Nat} {A : Around} (r : Room (k + 1) A) (C : Addr) (us : List Value) (kw : List (Str × Value)) : Room k (A.under (.builtin "type.__call__" ⟨.ref C :: us,kw⟩)) :=
 ⟨r.hd,by have := r.dp; rw [make_depth]; omega,by have := r.un; rw [make_units]; omega⟩
theorem Room.depth {k : Nat} {A : Around} (r : Room k A) : A.depth < recursionLimit := by have := r.dp; omega
theorem Room.units {k : Nat} {A : Around} (r : Room k A) : A.units + 64 < cLine := by have := r.un; omega
def tNil : TA := fun _ H Q => Q [] H
def tCons (ta : TE) (tr : TA) : TA := fun σ H Q => ta σ H fun x H1 => tr σ H1 fun xs H2 => Q (x :: xs) H2
section
variable {X : Cx} {e : Expr} {es : List Expr} {te : TE} {t : TA} {pos : Pos}
theorem pa_nil : PA X [] tNil := fun _ _ _ _ H Q I h => Calls.spliced_nil ⟨[],H,I,.nil,h⟩
theorem pa_cons (ha : PE X e te) (hr : PA X es t) (hs : starEach (e :: es) X.env = (false,eval e X.env) :: starEach es X.env := by rfl) : PA X (e :: es) (tCons te t) := by
 intro pos pins s σ H Q I h
 rw [hs]
 show wpAny _ _ (spliced ((false,eval e X.env) :: backTo pos (starEach es X.env))) _ _ s
 refine Calls.spliced_cons (thn (ha pins s σ H _ I h) fun u s1 ⟨x,H1,I1,r1,q1⟩ => ?_)
 exact thn (hr pos pins s1 σ H1 _ I1 q1) fun us s2 ⟨xs,H2,I2,r2,q2⟩ => ⟨x :: xs,H2,I2,.cons r1 r2,q2⟩
def tTup (t : TA) : TE := fun σ H Q => t σ H fun xs H1 => xs.length ≤ sizeLine ∧ ∀ p,H1 p = none → Q (.ref p) (upd H1 p (.tup xs))
def tLst (t : TA) : TE := fun σ H Q => t σ H fun xs H1 => xs.length ≤ sizeLine ∧ ∀ p,H1 p = none → Q (.ref p) (upd H1 p (.lst xs))
theorem pe_tup {x1} (h : PA X es t) : PE X (.Tuple es x1 pos) (tTup t) := by
 intro pins s σ H Q I hq
 refine wpAny_Tuple_spliced (thn (h pos pins s σ H _ I hq) fun us s1 ⟨xs,H1,I1,r,z,q⟩ => ⟨by rw [← r.length]; exact z,?_⟩)
 have hf : H1 s1.heap.objs.size = none := I1.hok.fresh (Nat.le_refl _)
 refine ⟨.ref s1.heap.objs.size,upd H1 s1.heap.objs.size (.tup xs),I1.laid (t' := s1.toks) (fun b u e => Heap.get?_push_of_some _ e) (Nat.le_refl _) ?_,rfl,q _ hf⟩
 exact ⟨z,us,r,⟨_,Heap.get?_push_size _ rfl,rfl,_,rfl⟩⟩
theorem pe_lst (h : PA X es t) : PE X (.List es pos) (tLst t) := by
 intro pins s σ H Q I hq
 refine wpAny_List_spliced (thn (h pos pins s σ H _ I hq) fun us s1 ⟨xs,H1,I1,r,z,q⟩ => ⟨by rw [← r.length]; exact z,?_⟩)
 have hf : H1 s1.heap.objs.size = none := I1.hok.fresh (Nat.le_refl _)
 refine ⟨.ref s1.heap.objs.size,upd H1 s1.heap.objs.size (.lst xs),I1.laid (t' := s1.toks) (fun b u e => Heap.get?_push_of_some _ e) (Nat.le_refl _) ?_,rfl,q _ hf⟩
 exact ⟨z,us,0,r,Heap.get?_push_size _ rfl⟩
end
abbrev Sp := List V → Hp → VK → XK → Prop
abbrev CXT := List Env → Hp → Shared → XK → Value → Shared → Prop
structure Env0 (P : Program) (w : World) (K : PySem.W.Frag) (mg : Str → Option Value) (base : Heap) (A : Around) (outer : List Env) (s : Shared) (H : Hp) : Prop where
 frames : A.frames = some outer
 mod : Mod K mg base
 bs : ∀ b o,base.get? b = some o → s.heap.get? b = some o ∧ H b = none
 bsz : base.objs.size ≤ s.heap.objs.size
 funs : s.heap.FunFrames base outer
 frf : ∀ b ∈ frs outer,H b = none
 hok : HOk P w H s.heap
 bare : AllBare s.gens
def CE (outer : List Env) (P : Program) (w : World) (H : Hp) (s : Shared) (Q : VK) (u : Value) (s' : Shared) : Prop :=
 ∃ v H',s'.os = s.os ∧ AllBare s'.gens ∧ Un (frs outer) [] H H' s.heap s'.heap ∧ HOk P w H' s'.heap ∧ RelV v u ∧ Q v H'
def CR (CX : CXT) (outer : List Env) (P : Program) (w : World) (H : Hp) (s : Shared) (Q : VK) (E : XK) (r : Result) (s' : Shared) : Prop :=
 match r with
 | .ok (.ret u) => CE outer P w H s Q u s'
 | .ok _ => False
 | .error e => CX outer H s E e s'
structure FnOk (P : Program) (w : World) (K : PySem.W.Frag) (mg : Str → Option Value) (base : Heap) (CX : CXT) (k : Nat) (f : Addr) (fd : FuncData) (ps : List Str) (sp : Sp) : Prop where
 len : ∀ vs H Q E,sp vs H Q E → vs.length = ps.length
 run : ∀ (A : Around) (outer : List Env) (s : Shared) (H : Hp) (args : Args) (us : List Value) (vs : List V) (Q : VK) (E : XK),Room k A → Env0 P w K mg base A outer s H → BindsTo s fd args (ps.zip us) → Vals vs us → sp vs H Q E →
  codeAny (model P w) A (.call (.ref f) args) (CR CX outer P w H s Q E) s
theorem FnOk.mono {P : Program} {w : World} {K : PySem.W.Frag} {mg : Str → Option Value} {base : Heap} {CX : CXT} {j k : Nat} {f : Addr} {fd : FuncData} {ps : List Str} {sp : Sp} (F : FnOk P w K mg base CX j f fd ps sp) (h : j ≤ k) :
  FnOk P w K mg base CX k f fd ps sp := ⟨F.len,fun A outer s H args us vs Q E hr => F.run A outer s H args us vs Q E (hr.mono h)⟩
theorem FnOk.imp {P : Program} {w : World} {K : PySem.W.Frag} {mg : Str → Option Value} {base : Heap} {CX : CXT} {k : Nat} {f : Addr} {fd : FuncData} {ps : List Str} {sp sp' : Sp} (F : FnOk P w K mg base CX k f fd ps sp)
  (h : ∀ vs H Q E,sp' vs H Q E → sp vs H Q E) : FnOk P w K mg base CX k f fd ps sp' :=
 ⟨fun vs H Q E q => F.len vs H Q E (h _ _ _ _ q),fun A outer s H args us vs Q E hr he hb hv hs => F.run A outer s H args us vs Q E hr he hb hv (h _ _ _ _ hs)⟩
theorem Env0.make {P : Program} {w : World} {K : PySem.W.Frag} {mg : Str → Option Value} {base : Heap} {A : Around} {outer : List Env} {s : Shared} {H : Hp} (e : Env0 P w K mg base A outer s H) (C : Addr) (us : List Value) (kw : List (Str × Value)) :
  Env0 P w K mg base (A.under (.builtin "type.__call__" ⟨.ref C :: us,kw⟩)) outer s H := ⟨by first | exact e.frames | (simpa [Around.under,Code.envs,Code.isFrame,pushEnvs] using e.frames),e.mod,e.bs,e.bsz,e.funs,e.frf,e.hok,e.bare⟩
section
variable {X : Cx} {pins : List (Addr × Obj)} {σ : St} {H : Hp} {s s' : Shared}
theorem Inv.env0 (I : Inv X pins σ H s) : Env0 X.prog X.w X.K X.mg X.base X.A X.stack s H :=
 ⟨I.ok.frames,I.ok.mod,I.bs,Nat.le_trans I.ok.bsz I.sz,I.stack,I.stkFree,I.hok,I.bare⟩
theorem Inv.after {Q : VK} {u : Value} (I : Inv X pins σ H s) (h : CE X.stack X.prog X.w H s Q u s') : EP X pins σ Q u s' := by
 obtain ⟨v,H',os,bare,un,hok,r,q⟩ := h
 obtain ⟨hh,g,d,t,os'⟩ := s'
 obtain rfl : os' = s.os := os
 exact ⟨v,H',I.call (h' := hh) (g' := g) (d' := d) (t' := t) (ch := []) un hok bare (fun b z => absurd z (by simp)),r,q⟩
end
def tCall (sp : Sp) (dvs : List V) (E : XK) (t : TA) : TE := fun σ H Q => t σ H fun vs H1 => sp (vs ++ dvs) H1 Q E
def tMeth (C : Addr) (m : Str) (sp : Sp) (dvs : List V) (E : XK) (ta : TE) (t : TA) : TE := fun σ H Q => ta σ H fun x H1 => ∃ a dx fs,x = .ref a ∧ H1 a = some (.ins C dx fs) ∧ fs.lookup m = none ∧
 t σ H1 fun vs H2 => sp (x :: (vs ++ dvs)) H2 Q E
def tMake (C : Addr) (sp : Sp) (dvs : List V) (E : XK) (t : TA) : TE := fun σ H Q => t σ H fun vs H1 => ∀ x dx,H1 x = none → H1 dx = none → dx ≠ x →
 sp (.ref x :: (vs ++ dvs)) (upd (upd H1 dx (.own x)) x (.ins C dx [])) (fun v H2 => v = .non ∧ Q (.ref x) H2) E
def Binds (K : PySem.W.Frag) (fd : FuncData) (ps : List Str) (ds : List Value) : Prop :=
 ∀ (s : Shared) (us : List Value),K.In s.heap → (us ++ ds).length = ps.length → BindsTo s fd ⟨us,[]⟩ (ps.zip (us ++ ds))
theorem Binds.all {K : PySem.W.Frag} {fd : FuncData} {ps : List Str} (h : ∀ us : List Value,us.length = ps.length → bindArgs fd ⟨us,[]⟩ = pure (ps.zip us)) : Binds K fd ps [] := fun s us _ hl => by
 rw [List.append_nil] at hl ⊢
 exact .of_eq (h us hl)
def Passes (CX : CXT) (X : Cx) (E : XK) : Prop := ∀ (pins : List (Addr × Obj)) (σ : St) (H : Hp) (s : Shared) (e : Value) (s' : Shared),Inv X pins σ H s → CX X.stack H s E e s' → X.xe e s'
section
variable {X : Cx} {CX : CXT} {k : Nat} {f C : Addr} {fd : FuncData} {ps : List Str} {sp : Sp} {dvs : List V} {ds : List Value} {E : XK} {x m : Str} {p pos apos : Pos} {e o : Expr} {es : List Expr} {ta : TE} {t : TA}
theorem run_fn {pins : List (Addr × Obj)} {σ : St} {H : Hp} {s : Shared} {Q : VK} {us : List Value} {vs : List V} (F : FnOk X.prog X.w X.K X.mg X.base CX k f fd ps sp) (hr : Room k X.A) (hb : Binds X.K fd ps ds) (hd : Vals dvs ds) (hx : Passes CX X E)
  (I : Inv X pins σ H s) (r : Vals vs us) (h : sp (vs ++ dvs) H Q E) : wpAny (model X.prog X.w) X.A (call (.ref f) us) (EP X pins σ Q) X.xe s := by
 have r2 : Vals (vs ++ dvs) (us ++ ds) := r.append hd
 have hl : (us ++ ds).length = ps.length := by rw [← r2.length]; exact F.len _ _ _ _ h
 refine wpAny_call (codeAny_mono (F.run X.A X.stack s H ⟨us,[]⟩ (us ++ ds) (vs ++ dvs) Q E hr I.env0 (hb s us I.kIn hl) r2 h) fun r s' hq => ?_)
 cases r with
 | error e => exact hx pins σ H s e s' I hq
 | ok fl =>
  cases fl with
  | ret u => exact I.after hq
  | next => exact False.elim hq
  | brk => exact False.elim hq
  | cont => exact False.elim hq
theorem pe_call (F : FnOk X.prog X.w X.K X.mg X.base CX k f fd ps sp) (hr : Room k X.A) (hg : Gl X x) (hm : X.mg x = some (.ref f)) (hk : PySem.W.keepIn X.K (.ref f) = true) (hb : Binds X.K fd ps ds) (hd : Vals dvs ds) (hx : Passes CX X E)
  (ha : PA X (e :: es) t) (hdb : (x == ("__debug__" : Str)) = false := by decide) (he : starEach (e :: es) X.env = (false,eval e X.env) :: starEach es X.env := by rfl) (hpl : (backTo pos (starEach es X.env)).any (·.1) = false := by rfl) :
  PE X (.Call (.Name x p) (e :: es) [] pos) (tCall sp dvs E t) := by
 intro pins s σ H Q I h
 refine wpAny_Call_Name_kw (ld_glob I hg hm ?_ hdb)
 refine PySem.W.callWith_K (h₀ := X.base) I.ok.mod.kin hk (thn (ha pos pins s σ H _ I h) fun us s1 ⟨vs,H1,I1,r,q⟩ => ⟨I1.kIn,?_⟩) he hpl
 exact run_fn F hr hb hd hx I1 r q
theorem pe_meth {pl : Sem Bool} (he : PE X o ta) (c : Cls X.K C) (hm : Meth X.K C m f) (F : FnOk X.prog X.w X.K X.mg X.base CX k f fd ps sp) (hr : Room k X.A) (hb : Binds X.K fd ps ds) (hd : Vals dvs ds) (hx : Passes CX X E) (ha : PA X (e :: es) t)
  (hst : starEach (e :: es) X.env = (false,eval e X.env) :: starEach es X.env := by rfl) (hpl : (backTo pos (starEach es X.env)).any (·.1) = false := by rfl)
  (ht : eval (.Call (.Attribute o m apos) (e :: es) [] pos) X.env = (do
   let ov ← eval o X.env
   standAt apos.atName
   let (f,first) ← holding [ov] (getMethod ov m pl)
   callWith pos f first (backTo pos (starEach (e :: es) X.env)) (backToKw pos (keywordEach [] X.env))) := by rfl) :
  PE X (.Call (.Attribute o m apos) (e :: es) [] pos) (tMeth C m sp dvs E ta t) := by
 intro pins s σ H Q I h
 refine PySem.W.methodCall_KW (pl := pl) (thn (he pins s σ H _ I h) fun u s1 ⟨x,H1,I1,rx,a,dx,fs,ex,ea,l,q⟩ => ?_) ht
 subst ex
 obtain rfl : u = Value.ref a := rx
 refine getmeth_ok I1 ea c hm l ?_
 refine PySem.W.callWith_K (first := [.ref a]) (h₀ := X.base) I.ok.mod.kin hm.kp (thn (ha pos pins s1 σ H1 _ I1 q) fun us s2 ⟨vs,H2,I2,r,q2⟩ => ⟨I2.kIn,?_⟩) hst hpl
 exact run_fn (us := .ref a :: us) (vs := .ref a :: vs) F hr hb hd hx I2 (.cons rfl r) q2
theorem pe_meth0 {pl : Sem Bool} (he : PE X o ta) (c : Cls X.K C) (hm : Meth X.K C m f) (F : FnOk X.prog X.w X.K X.mg X.base CX k f fd ps sp) (hr : Room k X.A) (hb : Binds X.K fd ps ds) (hd : Vals dvs ds) (hx : Passes CX X E)
  (ht : eval (.Call (.Attribute o m apos) [] [] pos) X.env = (do
   let ov ← eval o X.env
   standAt apos.atName
   let (f,first) ← holding [ov] (getMethod ov m pl)
   callWith pos f first (backTo pos (starEach [] X.env)) (backToKw pos (keywordEach [] X.env))) := by rfl) :
  PE X (.Call (.Attribute o m apos) [] [] pos) (tMeth C m sp dvs E ta tNil) := by
 intro pins s σ H Q I h
 refine PySem.W.methodCall_KW (pl := pl) (thn (he pins s σ H _ I h) fun u s1 ⟨x,H1,I1,rx,a,dx,fs,ex,ea,l,q⟩ => ?_) ht
 subst ex
 obtain rfl : u = Value.ref a := rx
 refine getmeth_ok I1 ea c hm l ?_
 exact PySem.W.callWith_K0 (first := [.ref a]) I1.kIn hm.kp (run_fn (us := [.ref a]) (vs := [.ref a]) F hr hb hd hx I1 (.cons rfl .nil) q)
structure Mk (K : PySem.W.Frag) (C f : Addr) : Prop where
 makes : PySem.W.makesIn K C = true
 init : PySem.W.findIn K (.ref C) "__init__" = some (some (.ref f))
 fn : PySem.W.isFn K (.ref f) = true
 kp : PySem.W.keepIn K (.ref C) = true
theorem run_make {pins : List (Addr × Obj)} {σ : St} {H : Hp} {s : Shared} {Q : VK} {us : List Value} {vs : List V} (M : Mk X.K C f) (F : FnOk X.prog X.w X.K X.mg X.base CX k f fd ps sp) (hr : Room (k + 1) X.A) (hb : Binds X.K fd ps ds) (hd : Vals dvs ds)
  (hx : Passes CX X E) (I : Inv X pins σ H s) (r : Vals vs us)
  (h : ∀ x dx,H x = none → H dx = none → dx ≠ x → sp (.ref x :: (vs ++ dvs)) (upd (upd H dx (.own x)) x (.ins C dx [])) (fun v H2 => v = .non ∧ Q (.ref x) H2) E) :
  wpAny (model X.prog X.w) X.A (call (.ref C) us) (EP X pins σ Q) X.xe s := by
 have hq := h (s.heap.objs.size + 1) s.heap.objs.size (I.hok.fresh (Nat.le_succ _)) (I.hok.fresh (Nat.le_refl _)) (Nat.ne_of_lt (Nat.lt_succ_self _))
 have I2 := Inv.made (C := C) I
 have r2 : Vals (V.ref (s.heap.objs.size + 1) :: (vs ++ dvs)) (Value.ref (s.heap.objs.size + 1) :: (us ++ ds)) := .cons rfl (r.append hd)
 have hl : (Value.ref (s.heap.objs.size + 1) :: us ++ ds).length = ps.length := by
  have e := r2.length
  rw [F.len _ _ _ _ hq] at e
  exact e.symm
 refine wpAny_call (make_map (f := f) I.kIn M.makes M.init (beq_iff_eq.mp M.fn) (codeAny_mono (F.run _ X.stack _ _ ⟨Value.ref (s.heap.objs.size + 1) :: us,[]⟩ (Value.ref (s.heap.objs.size + 1) :: (us ++ ds)) _ _ E (hr.make C us [])
  (I2.env0.make C us []) (hb _ (Value.ref (s.heap.objs.size + 1) :: us) I2.kIn hl) r2 hq) fun r s' hq' => ?_))
 cases r with
 | error e => exact hx pins σ _ _ e s' I2 hq'
 | ok fl =>
  cases fl with
  | ret u =>
   obtain ⟨v,H',I3,rv,ev,q3⟩ := I2.after hq'
   subst ev
   exact ⟨rv,⟨V.ref (s.heap.objs.size + 1),H',I3,rfl,q3⟩⟩
  | next => exact False.elim hq'
  | brk => exact False.elim hq'
  | cont => exact False.elim hq'
theorem pe_make (M : Mk X.K C f) (F : FnOk X.prog X.w X.K X.mg X.base CX k f fd ps sp) (hr : Room (k + 1) X.A) (hg : Gl X x) (hm : X.mg x = some (.ref C)) (hb : Binds X.K fd ps ds) (hd : Vals dvs ds) (hx : Passes CX X E)
  (ha : PA X (e :: es) t) (hdb : (x == ("__debug__" : Str)) = false := by decide) (he : starEach (e :: es) X.env = (false,eval e X.env) :: starEach es X.env := by rfl) (hpl : (backTo pos (starEach es X.env)).any (·.1) = false := by rfl) :
  PE X (.Call (.Name x p) (e :: es) [] pos) (tMake C sp dvs E t) := by
 intro pins s σ H Q I h
 refine wpAny_Call_Name_kw (ld_glob I hg hm ?_ hdb)
 refine PySem.W.callWith_K (h₀ := X.base) I.ok.mod.kin M.kp (thn (ha pos pins s σ H _ I h) fun us s1 ⟨vs,H1,I1,r,q⟩ => ⟨I1.kIn,?_⟩) he hpl
 exact run_make M F hr hb hd hx I1 r q
theorem pe_make0 (M : Mk X.K C f) (F : FnOk X.prog X.w X.K X.mg X.base CX k f fd ps sp) (hr : Room (k + 1) X.A) (hg : Gl X x) (hm : X.mg x = some (.ref C)) (hb : Binds X.K fd ps ds) (hd : Vals dvs ds) (hx : Passes CX X E)
  (hdb : (x == ("__debug__" : Str)) = false := by decide) : PE X (.Call (.Name x p) [] [] pos) (tMake C sp dvs E tNil) := by
 intro pins s σ H Q I h
 refine wpAny_Call_Name_kw (ld_glob I hg hm ?_ hdb)
 exact PySem.W.callWith_K0 I.kIn M.kp (run_make (us := []) M F hr hb hd hx I .nil h)
end
section
variable {X : Cx} {CX : CXT} {k : Nat} {f C : Addr} {fd : FuncData} {ps ks : List Str} {sp : Sp} {E : XK} {x m : Str} {p pos apos kpos : Pos} {e o : Expr} {es : List Expr} {kws : List Keyword} {te ta : TE} {t tk : TA} {nm : Option Str}
variable {g : List Value → List Value → List Value} {gV : List V → List V → List V}
end
structure FnScope (N P : List Str) (sc : Scope) : Prop where
 kind : sc.kind = .function
 co : sc.isCoroutine = false
 gen : sc.isGenerator = false
 nd : N.Nodup
 pre : N.take P.length = P
 par : ∀ x ∈ P,sc.names.lookup x = some .local ∨ sc.names.lookup x = some .cell
 nofree : ∀ y ∈ sc.names,y.2 ≠ .free
theorem bindL_out {kindOf : Str → Option NameKind} {x : Str} : ∀ {binds : List (Str × Value)} {m : Str → Option Value},(∀ v,(x,v) ∉ binds) → bindL kindOf binds m x = m x
 | [],_,_ => rfl
 | (n,v) :: r,m,h => by
  unfold bindL
  rw [bindL_out fun w hw => h w (List.mem_cons_of_mem _ hw)]
  split
  ·have : x ≠ n := by rintro rfl; exact h v List.mem_cons_self
   simp [this]
  ·rfl
theorem bindC_out {kindOf : Str → Option NameKind} {x : Str} : ∀ {binds : List (Str × Value)} {m : Str → Option Value},(∀ v,(x,v) ∉ binds) → bindC kindOf binds m x = m x
 | [],_,_ => rfl
 | (n,v) :: r,m,h => by
  unfold bindC
  rw [bindC_out fun w hw => h w (List.mem_cons_of_mem _ hw)]
  split
  ·rfl
  ·have : x ≠ n := by rintro rfl; exact h v List.mem_cons_self
   simp [this]
theorem bindL_get {kindOf : Str → Option NameKind} {x : Str} {v : Value} : ∀ {P : List Str} {vs : List Value} {i : Nat} {m : Str → Option Value},P.Nodup → P[i]? = some x → vs[i]? = some v → kindOf x = some .local →
  bindL kindOf (P.zip vs) m x = some v
 | [],_,_,_,_,h,_,_ => by simp at h
 | _ :: _,[],_,_,_,_,h,_ => by simp at h
 | p :: P,w :: vs,0,m,nd,h1,h2,hk => by
  simp at h1 h2; subst h1; subst h2
  show bindL kindOf ((p,w) :: P.zip vs) m p = _
  unfold bindL
  rw [bindL_out fun v hv => (List.nodup_cons.mp nd).1 (List.of_mem_zip hv).1,if_pos hk]
  simp
 | p :: P,w :: vs,i + 1,m,nd,h1,h2,hk => by
  show bindL kindOf ((p,w) :: P.zip vs) m x = _
  unfold bindL
  exact bindL_get (i := i) (List.nodup_cons.mp nd).2 (by simpa using h1) (by simpa using h2) hk
theorem bindC_get {kindOf : Str → Option NameKind} {x : Str} {v : Value} : ∀ {P : List Str} {vs : List Value} {i : Nat} {m : Str → Option Value},P.Nodup → P[i]? = some x → vs[i]? = some v → kindOf x ≠ some .local →
  bindC kindOf (P.zip vs) m x = some v
 | [],_,_,_,_,h,_,_ => by simp at h
 | _ :: _,[],_,_,_,_,h,_ => by simp at h
 | p :: P,w :: vs,0,m,nd,h1,h2,hk => by
  simp at h1 h2; subst h1; subst h2
  show bindC kindOf ((p,w) :: P.zip vs) m p = _
  unfold bindC
  rw [bindC_out fun v hv => (List.nodup_cons.mp nd).1 (List.of_mem_zip hv).1,if_neg hk]
  simp
 | p :: P,w :: vs,i + 1,m,nd,h1,h2,hk => by
  show bindC kindOf ((p,w) :: P.zip vs) m x = _
  unfold bindC
  exact bindC_get (i := i) (List.nodup_cons.mp nd).2 (by simpa using h1) (by simpa using h2) hk
def start (N : List Str) (vs : List V) : St := vs.map some ++ List.replicate (N.length - vs.length) none
def cxOf (CX : CXT) (P : Program) (w : World) (K : PySem.W.Frag) (mg : Str → Option Value) (base : Heap) (N : List Str) (qual : Str) (scope : Scope) (f : Addr) (cd : Value) (A : Around) (outer : List Env) (s : Shared) (H : Hp) (E : XK) : Cx where
 prog := P
 w := w
 K := K
 mg := mg
 base := base
 A := A.deeper (envOfC qual scope s.heap.objs.size f cd)
 N := N
 s_0 := s
 H_0 := H
 env := envOfC qual scope s.heap.objs.size f cd
 outer := outer
 stack := envOfC qual scope s.heap.objs.size f cd :: outer
 ex := []
 calm := true
 fn := fun _ => true
 pn := []
 xe := fun e s' => wpAny (model P w) (A.deeper (envOfC qual scope s.heap.objs.size f cd)) (leaving (envOfC qual scope s.heap.objs.size f cd) e) (fun _ s'' => CX outer H s E e s'') (fun e' s'' => CX outer H s E e' s'') s'
theorem cell_has {sc : Scope} {n : Nat} {x : Str} (h : sc.names.lookup x = some .cell) : ∃ c,(cellsFrom n sc.names []).lookup x = some c := by
 have q := PySem.W.cellsFrom_some sc.names n [] (.inl h)
 exact Option.isSome_iff_exists.mp q
theorem inv_start {CX : CXT} {P : Program} {w : World} {K : PySem.W.Frag} {mg : Str → Option Value} {base : Heap} {N ps : List Str} {qual : Str} {scope : Scope} {f : Addr} {cd : Value} {A : Around} {outer : List Env} {s s1 : Shared} {H : Hp} {E : XK} {us : List Value} {vs : List V}
  (S : FnScope N ps scope) (hd : A.handled = none) (e0 : Env0 P w K mg base A outer s H) (hl : vs.length = ps.length) (r : Vals vs us)
  (x : InCallC s s.heap.objs.size (bindL (envOfC qual scope s.heap.objs.size f cd).kindOf (ps.zip us) fun _ => none) (cellsFrom (s.heap.objs.size + 1) scope.names []) (bindC (envOfC qual scope s.heap.objs.size f cd).kindOf (ps.zip us) fun _ => none) s1) :
  Inv (cxOf CX P w K mg base N qual scope f cd A outer s H E) [] (start N vs) H s1 := by
 have hpl : ps.length ≤ N.length := by have := congrArg List.length S.pre; rw [List.length_take] at this; omega
 obtain ⟨h1,tk,rfl,hk⟩ := x.done
 have noA : ∀ b : Addr,b ∉ (cxOf CX P w K mg base N qual scope f cd A outer s H E).ex := fun b z => absurd (show b ∈ ([] : List Addr) from z) (by simp)
 refine ⟨⟨e0.mod,S.kind,rfl,rfl,Nat.le_refl _,fun y z c h1 h2 => ?_,fun y hy => ?_,fun y c _ h => ?_,fun _ => hd,Around.frames_deeper e0.frames,.inr ⟨rfl,rfl⟩,fun b z => absurd z (noA b),e0.bs,e0.bsz,fun b _ _ => noA b,fun b z => absurd z (noA b),e0.funs,e0.frf⟩,
  rfl,e0.bare,Un.kept hk,⟨_,x.toInCall.ns,fun i y v h1 h2 h3 => ?_⟩,fun y c h => ⟨_,x.cell y c h⟩,e0.hok.fresh (Nat.le_refl _),fun y c h => ?_,fun p hp => absurd (show p ∈ ([] : List (Addr × Obj)) from hp) (by simp),e0.hok.kept hk,?_⟩
 ·exact name_of_addr x.apart (PySem.mem_of_lookup h1) (PySem.mem_of_lookup h2)
 ·have hy : scope.names.lookup y = some .cell ∨ scope.names.lookup y = some .free := hy
  rcases hy with hy | hy
  ·exact cell_has hy
  ·exact absurd rfl (S.nofree _ (PySem.mem_of_lookup hy))
 ·exact Nat.le_of_lt (x.above y c (PySem.mem_of_lookup h))
 ·have hi : i < vs.length := by
   unfold start at h2
   by_cases hi : i < vs.length
   ·exact hi
   ·rw [List.getElem?_append_right (by simpa using hi)] at h2
    rw [List.getElem?_replicate] at h2
    split at h2 <;> cases h2
  have ha : vs[i]? = some v := by
   unfold start at h2
   rw [List.getElem?_append_left (by simpa using hi),List.getElem?_map] at h2
   cases e : vs[i]? with
   | none => rw [e] at h2; cases h2
   | some a => rw [e] at h2; cases h2; rfl
  obtain ⟨u,hu,rv⟩ := r.get ha
  have hp : ps[i]? = some y := by
   rw [← S.pre,List.getElem?_take_of_lt (by omega)]; exact h1
  have ndP : ps.Nodup := by rw [← S.pre]; exact S.nd.sublist (List.take_sublist _ _)
  refine ⟨u,rv,?_⟩
  rcases S.par y (List.mem_of_getElem? hp) with k | k
  ·exact .inl ⟨k,bindL_get ndP hp hu k⟩
  ·obtain ⟨c,e⟩ := cell_has (n := s.heap.objs.size + 1) k
   refine .inr ⟨.inl k,c,e,?_⟩
   have q := x.cell y c e
   rw [bindC_get ndP hp hu (by show scope.names.lookup y ≠ _; rw [k]; decide)] at q
   exact q
 ·exact e0.hok.fresh (Nat.le_of_lt (x.above y c (PySem.mem_of_lookup h)))
 ·unfold start
  show _ = N.length
  rw [List.length_append,List.length_map,List.length_replicate]
  omega
theorem fn_of {CX : CXT} {P : Program} {w : World} {K : PySem.W.Frag} {mg : Str → Option Value} {base : Heap} {k : Nat} {f : Addr} {name qual : Str} {params : Arguments} {body : List Stmt} {scope : Scope} {dV kV doc pm cdv ct oc : Value} {an od : Option Addr}
  {osl : Array (Option Value)} {N ps : List Str} {sp : Sp} (lk : K.lookup f = some ⟨oc,od,.func (PySem.W.fnOf name qual params body scope dV kV doc pm an cdv ct),osl⟩) (hcd : PySem.W.codeIn K cdv qual = true) (S : FnScope N ps scope)
  (len : ∀ vs H Q E,sp vs H Q E → vs.length = ps.length)
  (hbody : ∀ (A : Around) (outer : List Env) (s : Shared) (H : Hp) (vs : List V) (Q : VK) (E : XK),Room k (A.deeper (envOfC qual scope s.heap.objs.size f cdv)) → sp vs H Q E →
   ∃ t,PSs (cxOf CX P w K mg base N qual scope f cdv A outer s H E) body t ∧ t { nx := fun _ H' => Q .non H',rt := Q } (start N vs) H) :
  FnOk P w K mg base CX (k + 1) f (PySem.W.fnOf name qual params body scope dV kV doc pm an cdv ct) ps sp := by
 refine ⟨len,fun A outer s H args us vs Q E hr e0 hb r hsp => ?_⟩
 have hl := len _ _ _ _ hsp
 have KX : K.In s.heap := e0.mod.kin.keeps fun b o e => (e0.bs b o e).1
 have lim : s.heap.NoLimit := e0.mod.nolimit.keeps fun b o e => (e0.bs b o e).1
 have hkind : ∀ y ∈ ps.zip us,scope.names.lookup y.1 = some .local ∨ (scope.names.lookup y.1 = some .cell ∧ ((cellsFrom (s.heap.objs.size + 1) scope.names []).lookup y.1).isSome = true) := fun ⟨n,v⟩ hy => by
  rcases S.par n (List.of_mem_zip hy).1 with q | q
  ·exact .inl q
  ·exact .inr ⟨q,PySem.W.cellsFrom_some _ _ _ (.inl q)⟩
 refine codeAny_call_function hr.depth (KX _ _ lk) rfl S.co S.gen rfl (PySem.W.codeRec_of KX hcd) (hb _ _ _ _ ?_)
 refine wpAny_newFunctionEnv_cells S.kind hkind fun env he s1 x => ?_
 subst he
 refine ⟨lim.keeps x.toInCall.keep,codeAny_func ?_⟩
 obtain ⟨t,ht,hq⟩ := hbody A outer s H vs Q E (hr.deeper _) hsp
 have I : Inv (cxOf CX P w K mg base N qual scope f cdv A outer s H E) [] (start N vs) H s1 := inv_start S hr.hd e0 hl r x
 refine wpAny_mono (ht [] s1 (start N vs) H _ I hq) (fun fl s' hs => ?_) fun e s' hs => hs
 have fin : ∀ {σ' : St} {H' : Hp} {v : V} {u : Value},Inv (cxOf CX P w K mg base N qual scope f cdv A outer s H E) [] σ' H' s' → RelV v u → Q v H' → CE outer P w H s Q u s' :=
  fun {σ' H' v u} J rv q => ⟨v,H',J.os,J.bare,J.base,J.hok,rv,q⟩
 cases fl with
 | ret u =>
  obtain ⟨v,σ',H',J,rv,q⟩ := hs
  exact fin J rv q
 | next =>
  obtain ⟨σ',H',J,q⟩ := hs
  exact fin (v := V.non) (u := Value.none) J rfl q
 | brk =>
  obtain ⟨_,_,_,q⟩ := hs
  exact False.elim q
 | cont =>
  obtain ⟨_,_,_,q⟩ := hs
  exact False.elim q
end L2
namespace L2
open PySem PySem.Spec PyProof.Rows
section
variable {X : Cx} {x : Str} {p pos : Pos} {e : Expr} {es : List Expr} {t : TA} {id T : String} {r : List V → Hp → VK → Prop}
def tCB (r : List V → Hp → VK → Prop) (t : TA) : TE := fun σ H Q => t σ H fun vs H1 => r vs H1 Q
theorem pe_callB (hc : CallR X (.builtin id) r) (hg : Gl X x) (hm : X.mg x = none) (hv : bootBuiltins x = some (.builtin id)) (ha : PA X (e :: es) t) (hn : x ≠ "__name__" := by decide) (hdb : (x == ("__debug__" : Str)) = false := by decide)
  (he : starEach (e :: es) X.env = (false,eval e X.env) :: starEach es X.env := by rfl) (hpl : (backTo pos (starEach es X.env)).any (·.1) = false := by rfl) : PE X (.Call (.Name x p) (e :: es) [] pos) (tCB r t) := by
 intro pins s σ H Q I h
 refine wpAny_Call_Name_kw (ld_blt I hg hm hv ?_ hn hdb)
 exact PyProof.Rows.callWith_builtin1 (thn (ha pos pins s σ H _ I h) fun us s1 ⟨vs,H1,I1,r1,q1⟩ => hc pins s1 σ H1 vs us Q I1 r1 q1) he hpl
end
end L2
namespace HT
open PySem PyProof.Rows
section
open PySem.SeqAt
open PySem.AutoSeq1 (wpAny_loadPart')
open PySem.MeetsSeq PySem.MeetsSeq2 PySem.MeetsSeq3
end
section
variable {prog : Program} {w : World} {A : Around} {E : Value → Shared → Prop} {s : Shared}
def sIx (n d : Nat) : Option Int → Nat
 | none => d
 | some v => if v < 0 then (v + (n : Int)).toNat else min v.toNat n
theorem sIx_none (n d : Nat) : sIx n d none = d := rfl
theorem sIx_nat (n d k : Nat) : sIx n d (some (k : Int)) = min k n := by
 show (if (k : Int) < 0 then ((k : Int) + (n : Int)).toNat else min (k : Int).toNat n) = min k n
 rw [if_neg (by omega),Int.toNat_natCast]
end
end HT
namespace L2
open PySem PySem.Spec PyProof.Rows
abbrev TO := St → Hp → (Option Int → Hp → Prop) → Prop
def PO (X : Cx) (e : Option Expr) (t : TO) : Prop :=
 ∀ (pins : List (Addr × Obj)) (s : Shared) (σ : St) (H : Hp) (Q : Option Int → Hp → Prop),Inv X pins σ H s → t σ H Q →
  wpAny (model X.prog X.w) X.A (evalPart e X.env) (fun u s' => ∃ o H',Inv X pins σ H' s' ∧ IsPart u o ∧ Q o H') X.xe s
def tNoPart : TO := fun _ H Q => Q none H
def tPart (t : TE) : TO := fun σ H Q => t σ H fun x H1 => ∃ i,x = .int i ∧ Q (some i) H1
section
variable {X : Cx} {e : Expr} {te : TE} {lo hi : Option Expr} {tl th : TO} {pos p2 : Pos}
theorem po_none : PO X none tNoPart := by
 intro pins s σ H Q I h
 rw [evalPart_none]
 exact wpAny_pure ⟨none,H,I,.none,h⟩
theorem po_some (h : PE X e te) : PO X (some e) (tPart te) := by
 intro pins s σ H Q I hw
 rw [evalPart_some]
 refine thn (h pins s σ H _ I hw) fun u s1 ⟨x,H1,I1,r1,q1⟩ => ?_
 obtain ⟨i,rfl,q⟩ := q1
 obtain ⟨t,rfl⟩ := r1
 exact ⟨some i,H1,I1,.int i t,q⟩
def SlR (X : Cx) (r : V → Option Int → Option Int → Hp → VK → Prop) : Prop :=
 ∀ (pins : List (Addr × Obj)) (s : Shared) (σ : St) (H : Hp) (x : V) (v vl vu : Value) (lo hi : Option Int) (sl : Addr) (Q : VK),Inv X pins σ H s → RelV x v → s.heap.IsSliceOf sl vl vu .none → IsPart vl lo → IsPart vu hi → r x lo hi H Q →
  ∃ T id,typeLookup (.type T) "__getitem__" = pure (some (.builtin id)) ∧ s.TypeIs v T ∧ wpAny (model X.prog X.w) X.A (getItem v (.ref sl)) (EP X pins σ Q) X.xe s
def tSl (r : V → Option Int → Option Int → Hp → VK → Prop) (te : TE) (tl th : TO) : TE := fun σ H Q => te σ H fun x H1 => tl σ H1 fun l H2 => th σ H2 fun u H3 => r x l u H3 Q
theorem pe_slice {r : V → Option Int → Option Int → Hp → VK → Prop} (hr : SlR X r) (he : PE X e te) (hl : PO X lo tl) (hu : PO X hi th) : PE X (.Subscript e (.Slice lo hi none p2) pos) (tSl r te tl th) := by
 intro pins s σ H Q I h
 refine Subscript_ (thn (he pins s σ H _ I h) fun v s1 ⟨x,H1,I1,r1,q1⟩ => ?_)
 refine wpAny_Slice (thn (hl pins s1 σ H1 _ I1 q1) fun vl s2 ⟨l,H2,I2,pl,q2⟩ => thn (hu pins s2 σ H2 _ I2 q2) fun vu s3 ⟨u,H3,I3,pu,q3⟩ => ?_)
 rw [evalPart_none]
 refine wpAny_pure ?_
 have I4 : Inv X pins σ H3 { s3 with heap := s3.heap.push { cls := .type "slice",data := .fields #[vl,vu,.none] } } := I3.kept (t' := s3.toks) fun b ob q => Heap.get?_push_of_some _ q
 obtain ⟨T,id,hT,ht,hg⟩ := hr pins { s3 with heap := s3.heap.push { cls := .type "slice",data := .fields #[vl,vu,.none] } } σ H3 x v vl vu l u s3.heap.objs.size Q I4 r1 (Heap.IsSliceOf.new ..) pl pu q3
 show wpAny (model X.prog X.w) X.A (subscriptTail e (.Slice lo hi none p2) v (.ref s3.heap.objs.size)) (EP X pins σ Q) X.xe { s3 with heap := s3.heap.push { cls := .type "slice",data := .fields #[vl,vu,.none] } }
 exact tail_any (ops := [.ref s3.heap.objs.size,v]) ht hT hg (by with_unfolding_all rfl)
def cutV (xs : List V) (lo hi : Option Int) : List V := (xs.drop (HT.sIx xs.length 0 lo)).take (HT.sIx xs.length xs.length hi - HT.sIx xs.length 0 lo)
theorem cutV_length (xs : List V) (lo hi : Option Int) : (cutV xs lo hi).length ≤ xs.length := by
 unfold cutV
 rw [List.length_take,List.length_drop]
 omega
end
end L2
namespace L2
open PySem PySem.Spec PyProof.Rows
def ixN (n : Nat) (i : Int) : Option Nat := if 0 ≤ i then (if i < n then some i.toNat else none) else if -(n : Int) ≤ i then some (i + n).toNat else none
def atI {α : Type} (xs : List α) (i : Int) : Option α := (ixN xs.length i).bind fun j => xs[j]?
theorem ixN_seq {n : Nat} {i : Int} {j : Nat} (h : ixN n i = some j) : seqIndex? i n = some j ∧ j < n ∧ -(n : Int) ≤ i ∧ i < n := by
 unfold ixN at h
 by_cases h0 : 0 ≤ i
 ·rw [if_pos h0] at h
  by_cases h1 : i < n
  ·rw [if_pos h1] at h
   have e : i.toNat = j := Option.some.inj h
   exact ⟨by rw [seqIndex_of h0 h1,e],by omega,by omega,h1⟩
  ·rw [if_neg h1] at h; cases h
 ·rw [if_neg h0] at h
  by_cases h1 : -(n : Int) ≤ i
  ·rw [if_pos h1] at h
   have e : (i + n).toNat = j := Option.some.inj h
   exact ⟨by rw [seqIndex_neg (by omega) h1,e],by omega,h1,by omega⟩
  ·rw [if_neg h1] at h; cases h
theorem atI_get {α : Type} {xs : List α} {i : Int} {v : α} (h : atI xs i = some v) : ∃ j,seqIndex? i xs.length = some j ∧ xs[j]? = some v ∧ j < xs.length ∧ -(xs.length : Int) ≤ i ∧ i < xs.length := by
 unfold atI at h
 cases e : ixN xs.length i with
 | none => rw [e] at h; cases h
 | some j =>
  rw [e] at h
  obtain ⟨h1,h2,h3,h4⟩ := ixN_seq e
  exact ⟨j,h1,h,h2,h3,h4⟩
theorem atI_nat {α : Type} {xs : List α} {j : Nat} {v : α} (h : xs[j]? = some v) : atI xs (j : Int) = some v := by
 have hj : j < xs.length := (List.getElem?_eq_some_iff.mp h).1
 have e : ixN xs.length (j : Int) = some j := by
  unfold ixN
  rw [if_pos (by omega),if_pos (by omega)]; simp
 unfold atI; rw [e]; exact h
def PlainIx (b : Expr) : Prop := ∀ o i,subscripted b false o i = operate [o,i] (getItem o i)
def IxR (X : Cx) (r : R2) : Prop :=
 ∀ (value slice : Expr) (pins : List (Addr × Obj)) (s : Shared) (σ : St) (H : Hp) (x y : V) (v u : Value) (Q : VK),Inv X pins σ H s → RelV x v → RelV y u → r x y H Q →
  subscripted slice false v u = operate [v,u] (getItem v u) → wpAny (model X.prog X.w) X.A (subscriptTail value slice v u) (EP X pins σ Q) X.xe s
def MtR (X : Cx) (id : String) (r : V → List V → Hp → VK → Prop) : Prop :=
 ∀ (pins : List (Addr × Obj)) (s : Shared) (σ : St) (H : Hp) (x : V) (xs : List V) (v : Value) (us : List Value) (Q : VK),Inv X pins σ H s → RelV x v → Vals xs us → r x xs H Q →
  wpAny (model X.prog X.w) X.A (call (.builtin id) (v :: us)) (EP X pins σ Q) X.xe s
section
variable {X : Cx} {a b : Expr} {ta tb : TE} {pos : Pos}
theorem pe_ix {r : R2} (hr : IxR X r) (ha : PE X a ta) (hb : PE X b tb) (hs : PlainIx b) : PE X (.Subscript a b pos) (tOp r ta tb) := by
 intro pins s σ H Q I h
 exact Subscript_ (binT ha hb I h fun v u s2 x y H2 I2 rx ry q => hr a b pins s2 σ H2 x y v u Q I2 rx ry q (hs _ _))
def rIxL (K : PySem.W.Frag) : R2 := fun x y H Q => ∃ p xs i v,x = .ref p ∧ y = .int i ∧ SqL K H p xs ∧ atI xs i = some v ∧ Q v H
def rIxT (K : PySem.W.Frag) : R2 := fun x y H Q => ∃ p xs i v,x = .ref p ∧ y = .int i ∧ SqT K H p xs ∧ atI xs i = some v ∧ Q v H
theorem ix_list : IxR X (rIxL X.K) := by
 intro value slice pins s σ H x y v u Q I rx ry h hs
 obtain ⟨p,xs,i,z,rfl,rfl,hq,he,q⟩ := h
 cases rx
 obtain ⟨t,rfl⟩ := ry
 obtain ⟨its,r,pl,hz⟩ := I.list hq
 obtain ⟨j,h1,h2,h3,h4,h5⟩ := atI_get he
 obtain ⟨w,ew,rw'⟩ := r.get h2
 have hl := r.length
 have hn := line63
 have fin : EP X pins σ Q w s := ⟨z,H,I,rw',q⟩
 by_cases h0 : 0 ≤ i
 ·have hj : i.toNat = j := by
   rw [seqIndex_of h0 h5] at h1
   exact Option.some.inj h1
  exact item_listR pl.isList h0 (by omega) (by rw [hj]; simpa using ew) fin hs
 ·have hj : (i + (its.toArray.size : Int)).toNat = j := by
   rw [seqIndex_neg (by omega) h4] at h1
   rw [List.size_toArray,← hl]
   exact Option.some.inj h1
  exact subscriptTail_builtinR (x := w) pl.isList.typeIs slot_list_getitem.lookup
   (wpAny_getItem_list_neg (Q := fun r s' => r = w ∧ EP X pins σ Q r s') pl.isList (by omega) (by rw [List.size_toArray] <;> omega) (by omega) (by rw [hj]; simpa using ew) ⟨rfl,fin⟩) hs
theorem ix_tup : IxR X (rIxT X.K) := by
 intro value slice pins s σ H x y v u Q I rx ry h hs
 obtain ⟨p,xs,i,z,rfl,rfl,hq,he,q⟩ := h
 cases rx
 obtain ⟨t,rfl⟩ := ry
 obtain ⟨its,r,pl,hz⟩ := I.tuple hq
 obtain ⟨j,h1,h2,h3,h4,h5⟩ := atI_get he
 obtain ⟨w,ew,rw'⟩ := r.get h2
 have hl := r.length
 have hn := line63
 have fin : EP X pins σ Q w s := ⟨z,H,I,rw',q⟩
 exact subscriptTail_builtinR (x := w) pl.typeIs slot_tuple_getitem.lookup
  (getItem_tuple (j := j) (Q := fun r s' => r = w ∧ EP X pins σ Q r s') pl (by omega) (by omega) (by rw [List.size_toArray,← hl]; exact h1) (by simpa using ew) ⟨rfl,fin⟩) hs
theorem mapSeq_set (its : List Value) (n j : Nat) (u : Value) : Obj.mapSeq (·.setIfInBounds j u) { cls := .type "list",data := .seq its.toArray n } = { cls := .type "list",data := .seq (its.set j u).toArray n } := by
 simp [Obj.mapSeq]
theorem Inv.lst {pins : List (Addr × Obj)} {σ : St} {H : Hp} {s : Shared} {p : Addr} {xs : List V} (I : Inv X pins σ H s) (h : H p = some (.lst xs)) :
  ∃ (its : List Value) (n : Nat),Vals xs its ∧ s.heap.get? p = some { cls := .type "list",data := .seq its.toArray n } ∧ xs.length ≤ sizeLine := by
 obtain ⟨z,its,n,r,e⟩ := I.hok p _ h
 exact ⟨its,n,r,e,z⟩
theorem Inv.lstUpd {pins : List (Addr × Obj)} {σ : St} {H : Hp} {s : Shared} {p : Addr} {xs ys : List V} {its its' : List Value} {n n' : Nat} {f : Obj → Obj} (I : Inv X pins σ H s) (h : H p = some (.lst xs))
  (ho : s.heap.get? p = some { cls := .type "list",data := .seq its.toArray n }) (hf : f { cls := .type "list",data := .seq its.toArray n } = { cls := .type "list",data := .seq its'.toArray n' }) (r : Vals ys its') (hz : ys.length ≤ sizeLine) (t : Nat) :
  Inv X pins σ (upd H p (.lst ys)) { s with heap := s.heap.update p f,toks := t } := by
 have e : (s.heap.update p f).get? p = some { cls := .type "list",data := .seq its'.toArray n' } := by
  rw [Heap.get?_update_self f ho (by rw [hf] <;> rfl),hf]
 refine I.write (x := p) (e := p) (by rw [h]; trivial) (.inl rfl) (fun b u hb q => (Heap.get?_update_other _ _ (Ne.symm hb)).trans q) ⟨_,e⟩ ?_
 exact ⟨hz,its',n',r,e⟩
def rSetL : V → V → V → Hp → (Hp → Prop) → Prop := fun o i v H Q => ∃ p xs k j,o = .ref p ∧ i = .int k ∧ H p = some (.lst xs) ∧ ixN xs.length k = some j ∧ Q (upd H p (.lst (xs.set j v)))
theorem set_list : PSet X rSetL := by
 intro pins s σ H o i v ov iv u Q I ro ri rv h
 obtain ⟨p,xs,k,j,rfl,rfl,hp,hj,q⟩ := h
 cases ro
 obtain ⟨t,rfl⟩ := ri
 obtain ⟨its,n,r,ho,hz⟩ := I.lst hp
 obtain ⟨h1,h2,h3,h4⟩ := ixN_seq hj
 have hl := r.length
 have hn := line63
 have I' : Inv X pins σ (upd H p (.lst (xs.set j v))) { s with heap := s.heap.update p (Obj.mapSeq (·.setIfInBounds j u)) } :=
  I.lstUpd hp ho (mapSeq_set its n j u) (r.set rv j) (by rw [List.length_set]; exact hz) s.toks
 by_cases h0 : 0 ≤ k
 ·have hk : k.toNat = j := by
   rw [seqIndex_of h0 h4] at h1
   exact Option.some.inj h1
  exact PySem.W.ki_setAt ho h0 (by omega) (by rw [List.size_toArray,← hl]; exact h4) (by rw [hk]; exact ⟨_,I',q⟩)
 ·have hk : (k + (its.toArray.size : Int)).toNat = j := by
   rw [seqIndex_neg (by omega) h3] at h1
   rw [List.size_toArray,← hl]
   exact Option.some.inj h1
  exact PySem.W.ki_setBack ho (by omega) (by rw [List.size_toArray,← hl]; exact h3) (by omega) (by rw [hk]; exact ⟨_,I',q⟩)
theorem slice_bounds (lo hi : Option Int) (n : Nat) : (sliceBounds lo hi none n).1 = ((HT.sIx n 0 lo : Nat) : Int) ∧ (sliceBounds lo hi none n).2.1 = ((HT.sIx n n hi : Nat) : Int) ∧ (sliceBounds lo hi none n).2.2 = 1 := by
 refine ⟨?_,?_,rfl⟩
 ·cases lo with
  | none => simp [sliceBounds,HT.sIx]
  | some i =>
   simp only [sliceBounds,HT.sIx,Option.getD_none,show (1 : Int) > 0 by decide,if_true]
   by_cases h : i < 0
   ·simp only [h,if_true] <;> omega
   ·simp only [h,if_false] <;> omega
 ·cases hi with
  | none => simp [sliceBounds,HT.sIx]
  | some i =>
   simp only [sliceBounds,HT.sIx,Option.getD_none,show (1 : Int) > 0 by decide,if_true]
   by_cases h : i < 0
   ·simp only [h,if_true] <;> omega
   ·simp only [h,if_false] <;> omega
theorem slicePick_cut (its : List Value) (lo hi : Option Int) : slicePick its.toArray lo hi none = ((its.drop (HT.sIx its.length 0 lo)).take (HT.sIx its.length its.length hi - HT.sIx its.length 0 lo)).toArray := by
 obtain ⟨h1,h2,h3⟩ := slice_bounds lo hi its.toArray.size
 unfold slicePick
 rw [h1,h2,h3]
 simp only [sliceRange_one,pick_run,List.size_toArray] <;> rfl
def rSlL (K : PySem.W.Frag) : V → Option Int → Option Int → Hp → VK → Prop := fun x lo hi H Q => ∃ a xs,x = .ref a ∧ SqL K H a xs ∧ ∀ p,H p = none → Q (.ref p) (upd H p (.lst (cutV xs lo hi)))
theorem sl_list : SlR X (rSlL X.K) := by
 intro pins s σ H x v vl vu lo hi sl Q I rx hs pl pu h
 obtain ⟨a,xs,rfl,hx,q⟩ := h
 cases rx
 obtain ⟨its,r,ht,hz⟩ := I.list hx
 have hlen := r.length
 refine ⟨"list",_,slot_list_getitem.lookup,ht.isList.typeIs,?_⟩
 refine wpAny_getItem_list_slice ht.isList hs pl pu .none (by simp) ?_ (by rw [List.size_toArray] <;> omega)
 rw [slicePick_cut,← hlen]
 refine ⟨.ref s.heap.objs.size,_,I.laid (t' := s.toks) (o := .lst (cutV xs lo hi)) (fun b ob q => Heap.get?_push_of_some _ q) (Nat.le_refl _) ?_,rfl,q _ (I.hok.fresh (Nat.le_refl _))⟩
 exact ⟨Nat.le_trans (cutV_length xs lo hi) hz,_,0,(r.drop (HT.sIx xs.length 0 lo)).take (HT.sIx xs.length xs.length hi - HT.sIx xs.length 0 lo),Heap.get?_push_size _ rfl⟩
def flatV : V → Bool
 | .non => true
 | .bl _ => true
 | .int _ => true
 | .str _ => true
 | _ => false
def eqV : V → V → Bool
 | .non,.non => true
 | .bl a,.bl b => a == b
 | .bl a,.int b => (if a then 1 else 0) == b
 | .int a,.bl b => a == (if b then 1 else 0)
 | .int a,.int b => a == b
 | .str a,.str b => a == b
 | _,_ => false
theorem eqAt_V {A : Around} {s : Shared} {y x : V} {u v : Value} (ry : RelV y u) (rx : RelV x v) (fy : flatV y = true) (fx : flatV x = true) : SeqAt.EqAt A s u v (eqV y x) := by
 cases y with
 | non =>
  cases ry
  cases x with
  | non => cases rx; exact SeqAt.EqAt.same _
  | bl b => cases rx; exact SeqAt.EqAt.none_bool b
  | int b => obtain ⟨t,rfl⟩ := rx; exact SeqAt.EqAt.none_int b t
  | str b => obtain ⟨t,rfl⟩ := rx; exact SeqAt.EqAt.none_str b t
  | _ => exact absurd (show false = true from fx) Bool.false_ne_true
 | bl a =>
  cases ry
  cases x with
  | non => cases rx; exact SeqAt.EqAt.bool_none a
  | bl b => cases rx; exact SeqAt.EqAt.bool_bool a b
  | int b => obtain ⟨t,rfl⟩ := rx; exact SeqAt.EqAt.bool_int a b t
  | str b => obtain ⟨t,rfl⟩ := rx; exact SeqAt.EqAt.bool_str a b t
  | _ => exact absurd (show false = true from fx) Bool.false_ne_true
 | int a =>
  obtain ⟨t',rfl⟩ := ry
  cases x with
  | non => cases rx; exact SeqAt.EqAt.int_none a t'
  | bl b => cases rx; exact SeqAt.EqAt.int_bool a t' b
  | int b => obtain ⟨t,rfl⟩ := rx; exact SeqAt.EqAt.int_int a t' b t
  | str b => obtain ⟨t,rfl⟩ := rx; exact SeqAt.EqAt.int_str a t' b t
  | _ => exact absurd (show false = true from fx) Bool.false_ne_true
 | str a =>
  obtain ⟨t',rfl⟩ := ry
  cases x with
  | non => cases rx; exact SeqAt.EqAt.str_none a t'
  | bl b => cases rx; exact SeqAt.EqAt.str_bool a t' b
  | int b => obtain ⟨t,rfl⟩ := rx; exact SeqAt.EqAt.str_int a t' b t
  | str b => obtain ⟨t,rfl⟩ := rx; exact SeqAt.EqAt.str_str a t' b t
  | _ => exact absurd (show false = true from fx) Bool.false_ne_true
 | _ => exact absurd (show false = true from fy) Bool.false_ne_true
def eqU (x : V) (u : Value) : Bool := match u with
 | .none => eqV .non x
 | .bool b => eqV (.bl b) x
 | .int i _ => eqV (.int i) x
 | .str z _ => eqV (.str z) x
 | _ => false
theorem eqU_of {x y : V} {u : Value} (r : RelV y u) (f : flatV y = true) : eqU x u = eqV y x := by
 cases y with
 | non => cases r; rfl
 | bl b => cases r; rfl
 | int i => obtain ⟨t,rfl⟩ := r; rfl
 | str z => obtain ⟨t,rfl⟩ := r; rfl
 | _ => exact absurd (show false = true from f) Bool.false_ne_true
theorem any_eqU {x : V} : ∀ {xs : List V} {us : List Value},Vals xs us → xs.all flatV = true → us.any (eqU x) = xs.any fun y => eqV y x
 | _,_,.nil,_ => rfl
 | y :: xs,u :: us,.cons r t,f => by
  rw [List.all_cons,Bool.and_eq_true] at f
  rw [List.any_cons,List.any_cons,eqU_of r f.1,any_eqU t f.2]
theorem mem_eqAt {A : Around} {s : Shared} {x : V} {v : Value} (rx : RelV x v) (fx : flatV x = true) : ∀ {xs : List V} {us : List Value},Vals xs us → xs.all flatV = true → ∀ u ∈ us,SeqAt.EqAt A s u v (eqU x u)
 | _,_,.nil,_ => fun u hu => by cases hu
 | y :: xs,u :: us,.cons r t,f => fun u' hu => by
  rw [List.all_cons,Bool.and_eq_true] at f
  rcases List.mem_cons.mp hu with rfl | hu
  ·rw [eqU_of r f.1]; exact eqAt_V r rx f.1 fx
  ·exact mem_eqAt rx fx t f.2 u' hu
def inV (x : V) (xs : List V) : Bool := xs.any fun y => eqV y x
def rIn (K : PySem.W.Frag) (neg : Bool) : R2 := fun x y H Q => ∃ p xs,y = .ref p ∧ (SqL K H p xs ∨ SqT K H p xs) ∧ flatV x = true ∧ xs.all flatV = true ∧ Q (.bl (if neg then !inV x xs else inV x xs)) H
theorem op_in_seq : OpR X (compareOp .In) (rIn X.K false) := by
 intro pins s σ H x y v u Q I rx ry h
 obtain ⟨p,xs,rfl,hq,fx,fs,q⟩ := h
 cases ry
 rcases hq with hq | hq
 ·obtain ⟨its,r,pl,hz⟩ := I.list hq
  refine SeqAt.in_listAt (eqU x) pl.isList (fun w hw => mem_eqAt rx fx r fs w (by simpa using hw)) ⟨.bl _,H,I,rfl,?_⟩
  rw [show its.toArray.any (eqU x) = its.any (eqU x) by simp,any_eqU r fs]
  exact q
 ·obtain ⟨its,r,pl,hz⟩ := I.tuple hq
  refine SeqAt.in_tupleAt (eqU x) pl (fun w hw => mem_eqAt rx fx r fs w (by simpa using hw)) ⟨.bl _,H,I,rfl,?_⟩
  rw [show its.toArray.any (eqU x) = its.any (eqU x) by simp,any_eqU r fs]
  exact q
theorem call_len_seq : CallR X (.builtin "len") (fun xs H Q => ∃ p ys,xs = [.ref p] ∧ (SqL X.K H p ys ∨ SqT X.K H p ys) ∧ Q (.int ys.length) H) := by
 intro pins s σ H xs us Q I r h
 obtain ⟨p,ys,rfl,hq,q⟩ := h
 obtain ⟨u,rfl,rx⟩ := vals1 r
 cases rx
 have hn := line63
 rcases hq with hq | hq
 ·obtain ⟨its,r',pl,hz⟩ := I.list hq
  have hlen := r'.length
  exact Calls.call_len_list pl.isList (by simp only [List.size_toArray] <;> omega) ⟨.int ys.length,H,I.tok _,⟨s.toks + 1,by rw [List.size_toArray,hlen]⟩,q⟩
 ·obtain ⟨its,r',pl,hz⟩ := I.tuple hq
  have hlen := r'.length
  exact len_tuple pl (by simp only [List.size_toArray] <;> omega) ⟨.int ys.length,H,I.tok _,⟨s.toks + 1,by rw [List.size_toArray,hlen]⟩,q⟩
def tyV (K : PySem.W.Frag) (T : String) (x : V) (H : Hp) : Prop := match x with
 | .str _ => T = "str"
 | .int _ => T = "int"
 | .ref p => (T = "list" ∧ ∃ xs,SqL K H p xs) ∨ (T = "tuple" ∧ ∃ o,K.lookup p = some o ∧ o.cls = .type "tuple" ∧ o.dict = none) ∨
   (T = "dict" ∧ ((∃ kvs,H p = some (.dK kvs)) ∨ ∃ kvs,H p = some (.dT kvs))) ∨ (T = "set" ∧ ∃ S n,H p = some (.set S n))
 | _ => False
theorem tyV_is {pins : List (Addr × Obj)} {σ : St} {H : Hp} {s : Shared} {T : String} {x : V} {v : Value} (I : Inv X pins σ H s) (r : RelV x v) (ty : tyV X.K T x H) :
  s.TypeIs v T ∧ ∀ a,v = .ref a → ∃ ob,s.heap.get? a = some ob ∧ ob.dict = none := by
 cases x with
 | str z =>
  obtain ⟨t,rfl⟩ := r
  cases (show T = "str" from ty)
  exact ⟨typeIs_str s z t,fun _ e => nomatch e⟩
 | int i =>
  obtain ⟨t,rfl⟩ := r
  cases (show T = "int" from ty)
  exact ⟨typeIs_int s i t,fun _ e => nomatch e⟩
 | ref p =>
  cases r
  rcases ty with ⟨rfl,xs,hq⟩ | ⟨rfl,o,hk,hc,hd⟩ | ⟨rfl,hk⟩ | ⟨rfl,S,n,hk⟩
  ·obtain ⟨its,_,pl,_⟩ := I.list hq
   refine ⟨pl.isList.typeIs,fun a e => ?_⟩
   cases e
   obtain ⟨o,n,e,c,hd,_⟩ := pl
   exact ⟨o,e,hd⟩
  ·refine ⟨⟨o,I.kIn p o hk,hc⟩,fun a e => ?_⟩
   cases e
   exact ⟨o,I.kIn _ o hk,hd⟩
  ·have z : ∃ o,s.heap.get? p = some o ∧ o.ExactDict := by
    rcases hk with ⟨kvs,hk⟩ | ⟨kvs,hk⟩
    ·obtain ⟨_,_,_,_,o,_,_,e,ex,_⟩ := I.hok p _ hk
     exact ⟨o,e,ex⟩
    ·obtain ⟨_,_,_,_,o,_,_,e,ex,_⟩ := I.hok p _ hk
     exact ⟨o,e,ex⟩
   obtain ⟨o,e,ex⟩ := z
   refine ⟨⟨o,e,ex.1⟩,fun a e2 => ?_⟩
   cases e2
   exact ⟨o,e,ex.2.1⟩
  ·obtain ⟨o,_,_,_,e,ex,_⟩ := I.hok p _ hk
   refine ⟨⟨o,e,ex.1⟩,fun a e2 => ?_⟩
   cases e2
   exact ⟨o,e,ex.2.1⟩
 | _ => exact False.elim ty
def tBM0 (K : PySem.W.Frag) (T : String) (r : V → List V → Hp → VK → Prop) (to : TE) : TE := fun σ H Q => to σ H fun x H1 => tyV K T x H1 ∧ r x [] H1 Q
def tBM (K : PySem.W.Frag) (T : String) (r : V → List V → Hp → VK → Prop) (to : TE) (t : TA) : TE := fun σ H Q => to σ H fun x H1 => tyV K T x H1 ∧ t σ H1 fun xs H2 => r x xs H2 Q
variable {o e : Expr} {es : List Expr} {to : TE} {t : TA} {name : Str} {apos cpos : Pos} {T id : String} {r : V → List V → Hp → VK → Prop}
theorem pe_bm0 (pa : PlainAttrs T) (slot : Slot T name id) (hty : typeOf (.builtin id) = pure (.type "method_descriptor")) (hm : MtR X id r) (ho : PE X o to)
  (hbase : attributeBase o name X.env (eval o X.env) = eval o X.env := by rfl) (hline : (apos.endLine == cpos.line) = true := by rfl) : PE X (.Call (.Attribute o name apos) [] [] cpos) (tBM0 X.K T r to) := by
 intro pins s σ H Q I h
 refine wpAny_Call_method0_late hbase hline (thn (ho pins s σ H _ I h) fun v s1 ⟨x,H1,I1,r1,ty,q1⟩ => ?_)
 obtain ⟨h1,h2⟩ := tyV_is I1 r1 ty
 exact ⟨T,id,pa,slot,hty,h1,h2,Calls.callWith_builtin rfl (PySem.evalArgs_none (hm pins s1 σ H1 x [] v [] Q I1 r1 .nil q1))⟩
theorem pe_bm (pa : PlainAttrs T) (slot : Slot T name id) (hty : typeOf (.builtin id) = pure (.type "method_descriptor")) (hm : MtR X id r) (ho : PE X o to) (ha : PA X (e :: es) t)
  (hbase : attributeBase o name X.env (eval o X.env) = eval o X.env := by rfl)
  (hfew : ((backTo cpos (starEach (e :: es) X.env)).all (fun x => !x.1) && (backToKw cpos (keywordEach [] X.env)).all (fun x => x.1.isSome)
   && decide ((e :: es).length + ([] : List Keyword).length + (if ([] : List Keyword).isEmpty then 0 else 1) < 30)) = true := by rfl)
  (hline : (apos.endLine == cpos.line) = true := by rfl) (hs : starEach (e :: es) X.env = (false,eval e X.env) :: starEach es X.env := by rfl) (hplain : (backTo cpos (starEach es X.env)).any (·.1) = false := by rfl) :
  PE X (.Call (.Attribute o name apos) (e :: es) [] cpos) (tBM X.K T r to t) := by
 intro pins s σ H Q I h
 refine wpAny_Call_method_late hbase hfew hline rfl (thn (ho pins s σ H _ I h) fun v s1 ⟨x,H1,I1,r1,ty,q1⟩ => ?_)
 obtain ⟨h1,h2⟩ := tyV_is I1 r1 ty
 refine ⟨T,id,pa,slot,hty,h1,h2,?_⟩
 have hA := ha cpos pins s1 σ H1 _ I1 q1
 rw [hs] at hA ⊢
 refine Calls.callWith_builtin (by show (false || (backTo cpos (starEach es X.env)).any (·.1)) = false; rw [hplain] <;> rfl) (Calls.evalArgs_plain ?_)
 exact thn hA fun us s2 ⟨vs,H2,I2,r2,q2⟩ => hm pins s2 σ H2 x vs v us Q I2 r1 r2 q2
end
end L2
namespace L2
open PySem PySem.Spec PyProof.Rows
def MtM (X : Cx) (id : String) (r : V → List V → Hp → VK → Prop) : Prop :=
 ∀ (pins : List (Addr × Obj)) (s : Shared) (σ : St) (H : Hp) (x : V) (xs : List V) (v : Value) (us : List Value) (Q : VK),Inv X pins σ H s → RelV x v → Vals xs us → r x xs H Q →
  wpAny (model X.prog X.w) X.A (call (.builtin id) (v :: us)) (EP X pins σ Q) X.xe s
theorem Vals.one : ∀ {x : V} {us : List Value},Vals [x] us → ∃ u,us = [u] ∧ RelV x u
 | _,_,.cons r .nil => ⟨_,rfl,r⟩
theorem Vals.zero : ∀ {us : List Value},Vals [] us → us = []
 | _,.nil => rfl
theorem Vals.dropLast {xs : List V} {us : List Value} (h : Vals xs us) : Vals xs.dropLast us.dropLast := by
 induction h with
 | nil => exact .nil
 | cons r t ih =>
  cases t with
  | nil => exact .nil
  | cons q t' => exact .cons r ih
theorem Vals.eraseIdx : ∀ {xs : List V} {us : List Value} (i : Nat),Vals xs us → Vals (xs.eraseIdx i) (us.eraseIdx i)
 | _,_,_,.nil => .nil
 | _,_,0,.cons _ t => t
 | _,_,i + 1,.cons r t => .cons r (Vals.eraseIdx i t)
theorem Vals.rep {xs : List V} {us : List Value} (h : Vals xs us) : ∀ k : Nat,Vals (List.replicate k xs).flatten (List.replicate k us).flatten
 | 0 => .nil
 | k + 1 => by
  rw [List.replicate_succ,List.replicate_succ,List.flatten_cons,List.flatten_cons]
  exact Vals.append h (Vals.rep h k)
theorem erase_last {α : Type} (l : List α) : l.eraseIdx (l.length - 1) = l.dropLast := by
 induction l with
 | nil => rfl
 | cons a r ih =>
  cases r with
  | nil => rfl
  | cons b r =>
   have e : (a :: b :: r).length - 1 = ((b :: r).length - 1) + 1 := by
    have h1 : (a :: b :: r).length = r.length + 2 := rfl
    have h2 : (b :: r).length = r.length + 1 := rfl
    omega
   rw [e,List.eraseIdx_cons_succ,ih]
   all_goals rfl
theorem len_erase {α : Type} : ∀ (l : List α) (i : Nat),(l.eraseIdx i).length ≤ l.length
 | [],_ => Nat.le_refl _
 | _ :: _,0 => Nat.le_succ _
 | _ :: r,i + 1 => Nat.succ_le_succ (len_erase r i)
theorem foldl_rep (its : List Value) : ∀ (k : Nat) (acc : List Value),
  List.foldl (fun x1 x2 => x1 ++ x2) acc.toArray (List.replicate k its.toArray) = (acc ++ (List.replicate k its).flatten).toArray
 | 0,acc => by simp
 | k + 1,acc => by
  have e : acc.toArray ++ its.toArray = (acc ++ its).toArray := by simp
  have e2 : (acc ++ its) ++ (List.replicate k its).flatten = acc ++ (List.replicate (k + 1) its).flatten := by
   rw [List.replicate_succ,List.flatten_cons,List.append_assoc]
  rw [← e2,← foldl_rep its k (acc ++ its),← e,List.replicate_succ,List.foldl_cons]
section
variable {X : Cx} {pins : List (Addr × Obj)} {σ : St} {H : Hp} {s : Shared} {l b : Addr} {xs ys zs : List V}
theorem Inv.lset {its its' : List Value} {n : Nat} {f : Array Value → Array Value} {t' : Nat} (I : Inv X pins σ H s) (hH : H l = some (.lst xs))
  (e : s.heap.get? l = some { cls := .type "list",data := .seq its.toArray n }) (hf : f its.toArray = its'.toArray) (hv : Vals ys its') (hz : ys.length ≤ sizeLine) :
  Inv X pins σ (upd H l (.lst ys)) { s with heap := s.heap.update l (Obj.mapSeq f),toks := t' } := by
 have q := PySem.IsL.update e f
 rw [hf] at q
 refine I.write (x := l) (e := l) (by rw [hH]; exact trivial) (.inl rfl) (fun b' u hb hu => (Heap.get?_update_other s.heap (Obj.mapSeq f) (Ne.symm hb)).trans hu) ⟨_,q⟩ ?_
 exact ⟨hz,its',_,hv,q⟩
theorem Inv.lnew {its : List Value} {t' : Nat} (I : Inv X pins σ H s) (hv : Vals ys its) (hz : ys.length ≤ sizeLine) :
  Inv X pins σ (upd H s.heap.objs.size (.lst ys)) { s with heap := s.heap.push { cls := .type "list",data := .seq its.toArray },toks := t' } :=
 I.laid (fun _ _ q => Heap.get?_push_of_some _ q) (Nat.le_refl _) ⟨hz,its,0,hv,Heap.get?_push_size _ rfl⟩
theorem Inv.fresh (I : Inv X pins σ H s) : H s.heap.objs.size = none := I.hok.fresh (Nat.le_refl _)
theorem Inv.lstM (I : Inv X pins σ H s) (hH : H l = some (.lst xs)) : xs.length ≤ sizeLine ∧ ∃ (its : List Value) (n : Nat),Vals xs its ∧ xs.length = its.length ∧ s.heap.get? l = some { cls := .type "list",data := .seq its.toArray n } := by
 obtain ⟨z,its,n,r,e⟩ := I.hok l _ hH
 exact ⟨z,its,n,r,r.length,e⟩
theorem notLongL {n : Nat} (h : n ≤ sizeLine) : Builtin.List.listTooLong n = false := by
 unfold Builtin.List.listTooLong
 exact decide_eq_false (by omega)
end
section
variable {X : Cx}
def rAppend : V → List V → Hp → VK → Prop := fun x vs H Q => ∃ l xs y,x = .ref l ∧ vs = [y] ∧ H l = some (.lst xs) ∧ xs.length < sizeLine ∧ Q .non (upd H l (.lst (xs ++ [y])))
theorem mt_append : MtM X "list.append" rAppend := by
 intro pins s σ H x vs v us Q I rx rv h
 obtain ⟨l,xs,y,rfl,rfl,hH,hz,q⟩ := h
 cases rx
 obtain ⟨u,rfl,ru⟩ := rv.one
 obtain ⟨z,its,n,r,hl,e⟩ := I.lstM hH
 refine call_meets F.slot_list_append ⟨_,e,rfl⟩ F.entry_list_append (F.args_list_append_2 _ _) (PySem.list_append l its.toArray n u (by rw [List.size_toArray]; omega)) ⟨e,?_⟩
 refine ⟨.non,_,I.lset (its' := its ++ [u]) hH e (by simp) (r.append (.cons ru .nil)) ?_,rfl,q⟩
 rw [List.length_append,List.length_singleton]
 omega
def rExtend : V → List V → Hp → VK → Prop := fun x vs H Q => ∃ l b xs zs,x = .ref l ∧ vs = [.ref b] ∧ H l = some (.lst xs) ∧ H b = some (.lst zs) ∧ xs.length + zs.length ≤ sizeLine ∧ Q .non (upd H l (.lst (xs ++ zs)))
theorem mt_extend : MtM X "list.extend" rExtend := by
 intro pins s σ H x vs v us Q I rx rv h
 obtain ⟨l,b,xs,zs,rfl,rfl,hH,hB,hz,q⟩ := h
 cases rx
 obtain ⟨u,rfl,ru⟩ := rv.one
 cases ru
 obtain ⟨z,its,n,r,hl,e⟩ := I.lstM hH
 obtain ⟨z2,its2,n2,r2,hl2,e2⟩ := I.lstM hB
 have hsz : its.toArray.size + its2.toArray.size ≤ sizeLine := by rw [List.size_toArray,List.size_toArray]; omega
 have hlong : ¬ (!its.toArray.isEmpty && Builtin.List.listTooLong (its.toArray.size + its2.toArray.size)) = true := by
  rw [notLongL hsz,Bool.and_false]
  exact Bool.false_ne_true
 refine call_meets F.slot_list_extend ⟨_,e,rfl⟩ F.entry_list_extend (F.args_list_extend_2 _ _)
  (AutoSeq1.list_extend_list_list_0 l its.toArray n b its2.toArray n2 hlong (by rw [List.size_toArray]; omega) (by omega)) ⟨e,e2,?_⟩
 refine ⟨.non,_,I.lset (its' := its ++ its2) hH e (by simp) (r.append r2) ?_,rfl,q⟩
 rw [List.length_append]
 omega
def rPop : V → List V → Hp → VK → Prop := fun x vs H Q => ∃ l xs y,x = .ref l ∧ vs = [] ∧ H l = some (.lst xs) ∧ xs[xs.length - 1]? = some y ∧ Q y (upd H l (.lst xs.dropLast))
theorem mt_pop : MtM X "list.pop" rPop := by
 intro pins s σ H x vs v us Q I rx rv h
 obtain ⟨l,xs,y,rfl,rfl,hH,hy,q⟩ := h
 cases rx
 have hus := rv.zero
 subst hus
 obtain ⟨z,its,n,r,hl,e⟩ := I.lstM hH
 obtain ⟨u,hu,ru⟩ := r.get hy
 have hy' : its.toArray[its.toArray.size - 1]? = some u := by
  show its.toArray[its.length - 1]? = some u
  rw [← Array.getElem?_toList,← hl]
  exact hu
 refine call_meets F.slot_list_pop ⟨_,e,rfl⟩ F.entry_list_pop (F.args_list_pop_1 _) (MeetsSeq.list_pop_last l its.toArray n u hy' (by rw [List.size_toArray]; omega)) ⟨e,?_⟩
 refine ⟨y,_,I.lset (its' := its.dropLast) hH e ?_ r.dropLast ?_,ru,q⟩
 ·show its.toArray.eraseIdxIfInBounds (its.toArray.size - 1) = its.dropLast.toArray
  rw [List.size_toArray,List.eraseIdxIfInBounds_toArray,erase_last]
 ·rw [List.length_dropLast]
  omega
def rPopAt : V → List V → Hp → VK → Prop := fun x vs H Q => ∃ l xs i k y,x = .ref l ∧ vs = [.int i] ∧ H l = some (.lst xs) ∧ -(2 ^ 63) ≤ i ∧ i < 2 ^ 63 ∧ seqIndex? i xs.length = some k ∧ xs[k]? = some y ∧ Q y (upd H l (.lst (xs.eraseIdx k)))
theorem mt_popAt : MtM X "list.pop" rPopAt := by
 intro pins s σ H x vs v us Q I rx rv h
 obtain ⟨l,xs,i,k,y,rfl,rfl,hH,h1,h2,hk,hy,q⟩ := h
 cases rx
 obtain ⟨u,rfl,ru⟩ := rv.one
 obtain ⟨t,rfl⟩ := ru
 obtain ⟨z,its,n,r,hl,e⟩ := I.lstM hH
 obtain ⟨w,hw,rw'⟩ := r.get hy
 refine call_meets F.slot_list_pop ⟨_,e,rfl⟩ F.entry_list_pop (F.args_list_pop_2 _ _)
  (MeetsSeq.list_pop_at l its.toArray n i t k w (fitsIndex_both h1 h2) (by rw [List.size_toArray,← hl]; exact hk) (by rw [← Array.getElem?_toList]; exact hw) (by rw [List.size_toArray]; omega)) ⟨e,?_⟩
 refine ⟨y,_,I.lset (its' := its.eraseIdx k) hH e ?_ (r.eraseIdx k) ?_,rw',q⟩
 ·show its.toArray.eraseIdxIfInBounds k = (its.eraseIdx k).toArray
  rw [List.eraseIdxIfInBounds_toArray]
 ·have := len_erase xs k
  omega
def rCat : R2 := fun x y H Q => ∃ l b xs zs,x = .ref l ∧ y = .ref b ∧ H l = some (.lst xs) ∧ H b = some (.lst zs) ∧ xs.length + zs.length ≤ sizeLine ∧ ∀ p,H p = none → Q (.ref p) (upd H p (.lst (xs ++ zs)))
theorem op_cat : OpR X (binaryOp .Add) rCat := by
 intro pins s σ H x y v u Q I rx ry h
 obtain ⟨l,b,xs,zs,rfl,rfl,hH,hB,hz,q⟩ := h
 cases rx
 cases ry
 obtain ⟨z,its,n,r,hl,e⟩ := I.lstM hH
 obtain ⟨z2,its2,n2,r2,hl2,e2⟩ := I.lstM hB
 refine PySem.P.add_list e e2 ?_ (by rw [List.size_toArray,List.size_toArray]; omega)
 have ea : its.toArray ++ its2.toArray = (its ++ its2).toArray := by simp
 rw [ea]
 exact ⟨.ref _,_,I.lnew (t' := s.toks) (r.append r2) (by rw [List.length_append]; omega),rfl,q _ I.fresh⟩
def rRep : R2 := fun x y H Q => ∃ l k xs,x = .ref l ∧ y = .int k ∧ H l = some (.lst xs) ∧ -(2 ^ 63) ≤ k ∧ k < 2 ^ 63 ∧ xs.length * k.toNat ≤ sizeLine ∧
 ∀ p,H p = none → Q (.ref p) (upd H p (.lst (List.replicate k.toNat xs).flatten))
theorem len_rep {α : Type} (xs : List α) (k : Nat) : (List.replicate k xs).flatten.length = k * xs.length := by
 induction k with
 | zero => simp
 | succ k ih => rw [List.replicate_succ,List.flatten_cons,List.length_append,ih,Nat.succ_mul,Nat.add_comm]
theorem op_rep : OpR X (binaryOp .Mult) rRep := by
 intro pins s σ H x y v u Q I rx ry h
 obtain ⟨l,k,xs,rfl,rfl,hH,h1,h2,hz,q⟩ := h
 cases rx
 obtain ⟨t,rfl⟩ := ry
 obtain ⟨z,its,n,r,hl,e⟩ := I.lstM hH
 have hlen : its.toArray.size * k.toNat ≤ sizeLine := by rw [List.size_toArray,← hl]; exact hz
 have hcap : ¬ its.toArray.size * k.toNat > (2 ^ 63 - 1) / 8 := by
  have : (sizeLine : Nat) ≤ (2 ^ 63 - 1) / 8 := by decide
  omega
 have hfit : ¬ (!Builtin.List.listFitsIndex k) = true := by
  rw [fitsIndex_both h1 h2]
  exact Bool.false_ne_true
 have hlong : ¬ Builtin.List.listTooLong (its.toArray.size * k.toNat) = true := by
  rw [notLongL hlen]
  exact Bool.false_ne_true
 have hnew : List.foldl (fun x1 x2 => x1 ++ x2) #[] (List.replicate (if its.toArray.isEmpty = true then 0 else k.toNat) its.toArray) = (List.replicate k.toNat its).flatten.toArray := by
  have f0 : ∀ m : Nat,List.foldl (fun x1 x2 => x1 ++ x2) #[] (List.replicate m its.toArray) = (List.replicate m its).flatten.toArray := fun m => by
   have := foldl_rep its m []
   rw [List.nil_append] at this
   exact this
  rw [f0]
  cases its with
  | nil => simp
  | cons a r' => rw [if_neg (by simp)]
 refine wpAny_binaryOp_repeat_ref (T := "list") (U := "int") (by decide) ⟨_,e,rfl⟩ (fun s' => typeIs_int s' k t) noFill_list_mul F.fills_int_mul F.slot_int_rmul repeat_list F.slot_int_index.lookup
  (call_meets F.slot_int_rmul (typeIs_int s k t) F.entry_int_rmul (F.args_int_rmul_2 _ _) (int___rmul___int_list k t l its.toArray n)
   ⟨e,rfl,⟨_,e,rfl⟩,call_meets F.slot_list_mul ⟨_,e,rfl⟩ F.entry_list_mul (F.args_list_mul_2 _ _) (AutoListH.list___mul___list_int_3 l its.toArray n k t hfit hcap hlong) ⟨e,?_⟩⟩)
 rw [hnew]
 exact ⟨.ref _,_,I.lnew (t' := s.toks) (r.rep k.toNat) (by rw [len_rep,Nat.mul_comm]; exact hz),rfl,q _ I.fresh⟩
end
section
variable {prog : Program} {w : World} {A : Around} {E : Value → Shared → Prop} {s : Shared}
end
section
variable {X : Cx}
end
end L2
namespace L2
open PySem PySem.Spec PyProof.Rows
theorem Vals.ints : ∀ {ns : List Int} {us : List Value},Vals (ns.map V.int) us → IntsAre us ns
 | [],us,h => by
  rw [List.map_nil] at h
  cases h
  exact IntsAre.nil
 | n :: ns,us,h => by
  rw [List.map_cons] at h
  cases h with
  | cons r t =>
   obtain ⟨k,rfl⟩ := r
   exact IntsAre.cons n k (Vals.ints t)
theorem vals_of_ints : ∀ {us : List Value} {ns : List Int},IntsAre us ns → Vals (ns.map V.int) us
 | _,_,.nil => by rw [List.map_nil]; exact Paired.nil
 | _,_,.cons n t h => by rw [List.map_cons]; exact Paired.cons (show RelV (V.int n) (Value.int n t) from ⟨t,rfl⟩) (vals_of_ints h)
theorem Vals.bls : ∀ {bs : List Bool} {us : List Value},Vals (bs.map V.bl) us → us = bs.map Value.bool
 | [],us,h => by
  rw [List.map_nil] at h
  cases h
  rfl
 | b :: bs,us,h => by
  rw [List.map_cons] at h
  cases h with
  | cons r t =>
   cases r
   rw [Vals.bls t,List.map_cons]
theorem Vals.ref1 {a : Addr} {us : List Value} (r : Vals [V.ref a] us) : us = [Value.ref a] := by
 cases r with
 | cons r t =>
  cases t
  cases r
  rfl
section
variable {prog : Program} {w : World} {A : Around} {E : Value → Shared → Prop} {s : Shared} {l : Addr} {its : List Value} {ns : List Int} {Q : Value → Shared → Prop}
end
section
variable {X : Cx}
end
section
variable {X : Cx}
end
section
variable {X : Cx}
end
theorem iter_any {prog : Program} {w : World} {A : Around} {E : Value → Shared → Prop} {s : Shared} {l : Addr} {items : Array Value} {Q : Value → Shared → Prop} (hl : s.heap.IsList l items)
  (h : ∀ s₂ : Shared,s₂ = { s with heap := s.heap.push { cls := .type "list_iterator",data := .fields #[.ref l,.int 0 0] } } →
   (s₂.heap.IsListIter s.heap.objs.size l 0 ∧ s₂.heap.IsList l items) → l ≠ s.heap.objs.size → Q (.ref s.heap.objs.size) s₂) : wpAny (model prog w) A (pyIter (.ref l)) Q E s := by
 have hlt : l < s.heap.objs.size := by obtain ⟨_,e,_⟩ := hl; exact Heap.lt_size e
 exact wpAny_pyIter_list hl (h _ rfl ⟨⟨_,Heap.get?_push_size _ rfl,rfl,rfl⟩,hl.push _⟩ (Nat.ne_of_lt hlt))
theorem truth_bools {prog : Program} {w : World} {A : Around} {bs : List Bool} {its : List Value} (e : its = bs.map Value.bool) :
  TruthOf prog w A (fun i v => its.toArray[i]? = some v) (fun i => bs.getD i false) := fun i v s Q E hv hq => by
 have hv' : its[i]? = some v := by simpa using hv
 rw [e,List.getElem?_map] at hv'
 obtain ⟨b,hb,rfl⟩ := Option.map_eq_some_iff.mp hv'
 have hg : bs.getD i false = b := by rw [List.getD_eq_getElem?_getD,hb] <;> rfl
 have hq' : Q (bs.getD i false) s := hq
 rw [hg] at hq'
 exact wpAny_truthy_bool hq'
theorem any_range : ∀ bs : List Bool,(List.range bs.length).any (fun i => bs.getD i false) = bs.any id
 | [] => rfl
 | b :: bs => by
  rw [List.length_cons,List.range_succ_eq_map,List.any_cons,List.any_map,List.any_cons,← any_range bs]
  all_goals rfl
theorem all_range : ∀ bs : List Bool,(List.range bs.length).all (fun i => bs.getD i false) = bs.all id
 | [] => rfl
 | b :: bs => by
  rw [List.length_cons,List.range_succ_eq_map,List.all_cons,List.all_map,List.all_cons,← all_range bs]
  all_goals rfl
section
variable {X : Cx}
def rAll (K : PySem.W.Frag) : List V → Hp → VK → Prop := fun vs H Q => ∃ (a : Addr) (bs : List Bool),vs = [V.ref a] ∧ SqL K H a (bs.map V.bl) ∧ Q (.bl (bs.all id)) H
theorem cr_all (hc : X.calm = true) : CallR X (.builtin "all") (rAll X.K) := by
 intro pins s σ H vs us Q I r h
 obtain ⟨a,bs,rfl,hs,q⟩ := h
 obtain ⟨its,rv,hl,_⟩ := I.list hs
 rw [Vals.ref1 r]
 have hb := rv.bls
 refine call_all_walk (iter_any hl.isList fun s₂ e2 st hne => ?_)
 subst e2
 refine ⟨_,_,_,_,_,_,_,rfl,Walks.list (A := X.A.in1) (I.ok.hd hc) _ a hne its.toArray,st,truth_bools hb,fun h' tk hk => ?_⟩
 refine ⟨.bl _,H,I.kept fun b o eo => hk b o (fun hmem => ?_) (Heap.get?_push_of_some _ eo),?_,q⟩
 ·rcases List.mem_cons.mp hmem with e1 | hmem
  ·exact absurd (e1 ▸ Heap.lt_size eo) (Nat.lt_irrefl _)
  ·cases hmem
 ·show Value.bool _ = Value.bool _
  rw [← all_range,hb,List.size_toArray,List.length_map]
end
section
variable {X : Cx} {pins : List (Addr × Obj)} {σ : St} {H : Hp} {s : Shared}
end
section
variable {X : Cx}
end
end L2
namespace L2
open PySem PySem.Spec PyProof.Rows
abbrev CellAt (h : Heap) (c : Addr) (v : Option Value) : Prop := h.IsCell c v
def relS (scope sc : Scope) : Scope :=
 { scope with names := scope.names.map fun (n,k) => if (k == .free && sc.kind == .function && sc.names.lookup n == some .cell) then (n,.cell) else (n,k) }
def cloFrom (cells : List (Str × Addr)) : List (Str × NameKind) → List (Str × Addr) → List (Str × Addr)
 | [],acc => acc
 | (n,k) :: r,acc => if k == .free then cloFrom cells r ((n,(cells.lookup n).getD 0) :: acc) else cloFrom cells r acc
theorem closure_loop (env : Env) (f : Str × NameKind → List (Str × Addr) → Sem (ForInStep (List (Str × Addr))))
  (hf : ∀ n k c,f (n,k) c = if k == .free then (do let a ← cellOf env n; pure (.yield ((n,a) :: c))) else pure (.yield c)) :
  ∀ (names : List (Str × NameKind)) (acc : List (Str × Addr)),(∀ y ∈ names,y.2 = .free → ∃ c,env.cells.lookup y.1 = some c) → forIn names acc f = pure (cloFrom env.cells names acc)
 | [],acc,_ => by rw [List.forIn_nil]; rfl
 | (n,k) :: r,acc,h => by
  rw [List.forIn_cons,hf]
  have ih := fun acc => closure_loop env f hf r acc fun y hy => h y (List.mem_cons_of_mem _ hy)
  unfold cloFrom
  by_cases hk : (k == NameKind.free) = true
  ·rw [if_pos hk,if_pos hk]
   obtain ⟨c,hc⟩ := h (n,k) List.mem_cons_self (by simpa using hk)
   have e : cellOf env n = pure c := by unfold cellOf; rw [hc]
   rw [e]
   have e2 : (env.cells.lookup n).getD 0 = c := by rw [hc]; rfl
   rw [e2]
   exact ih _
  ·rw [if_neg hk,if_neg hk]
   exact ih _
theorem closure_ok {scope : Scope} {env : Env} (h : ∀ y ∈ scope.names,y.2 = .free → ∃ c,env.cells.lookup y.1 = some c) : closureFor scope env = pure (cloFrom env.cells scope.names []) := by
 simp only [closureFor]
 rw [closure_loop env _ (fun n k c => rfl) scope.names [] h]
 rfl
theorem mem_lookup {α : Type} : ∀ {l : List (Str × α)} {n : Str} {c : α},(n,c) ∈ l → ∃ c',l.lookup n = some c'
 | (k,v) :: r,n,c,h => by
  rw [List.lookup_cons]
  cases hb : n == k with
  | true => exact ⟨_,rfl⟩
  | false =>
   rcases List.mem_cons.mp h with e | h
   ·cases e; simp at hb
   ·exact mem_lookup h
theorem cloFrom_mem {cells : List (Str × Addr)} : ∀ {names : List (Str × NameKind)} {acc : List (Str × Addr)} {n : Str} {c : Addr},(n,c) ∈ cloFrom cells names acc → (n,c) ∈ acc ∨ ((n,.free) ∈ names ∧ c = (cells.lookup n).getD 0)
 | [],_,_,_,h => .inl h
 | (m,k) :: r,acc,n,c,h => by
  unfold cloFrom at h
  split at h
  ·rename_i hk
   have hk : k = .free := by simpa using hk
   rcases cloFrom_mem h with h | ⟨h1,h2⟩
   ·rcases List.mem_cons.mp h with e | h
    ·cases e; exact .inr ⟨hk ▸ List.mem_cons_self,rfl⟩
    ·exact .inl h
   ·exact .inr ⟨List.mem_cons_of_mem _ h1,h2⟩
  ·rcases cloFrom_mem h with h | ⟨h1,h2⟩
   ·exact .inl h
   ·exact .inr ⟨List.mem_cons_of_mem _ h1,h2⟩
theorem cloFrom_acc {cells : List (Str × Addr)} : ∀ {names : List (Str × NameKind)} {acc : List (Str × Addr)} {p : Str × Addr},p ∈ acc → p ∈ cloFrom cells names acc
 | [],_,_,h => h
 | (m,k) :: r,acc,p,h => by
  unfold cloFrom
  split
  ·exact cloFrom_acc (List.mem_cons_of_mem _ h)
  ·exact cloFrom_acc h
theorem cloFrom_has {cells : List (Str × Addr)} : ∀ {names : List (Str × NameKind)} {acc : List (Str × Addr)} {n : Str},(n,.free) ∈ names → (n,(cells.lookup n).getD 0) ∈ cloFrom cells names acc
 | (m,k) :: r,acc,n,h => by
  unfold cloFrom
  rcases List.mem_cons.mp h with e | h
  ·cases e
   exact cloFrom_acc List.mem_cons_self
  ·split
   ·exact cloFrom_has h
   ·exact cloFrom_has h
theorem cells_mem : ∀ {names : List (Str × NameKind)} {h : Heap} {acc : List (Str × Addr)} {x : Str} {c : Addr},(x,c) ∈ cellsFrom h.objs.size names acc →
  (x,c) ∈ acc ∨ ((x,.cell) ∈ names ∧ h.objs.size ≤ c ∧ CellAt (pushCells h names) c none)
 | [],_,_,_,_,h => .inl h
 | (n,k) :: r,h,acc,x,c,hm => by
  unfold cellsFrom at hm
  unfold pushCells
  split at hm
  ·rename_i hk
   rw [if_pos hk]
   have hk : k = .cell := by simpa using hk
   rw [← Heap.size_push h { cls := .type "cell",data := .cell none }] at hm
   rcases cells_mem hm with hm | ⟨h1,h2,h3⟩
   ·rcases List.mem_cons.mp hm with e | hm
    ·cases e
     exact .inr ⟨hk ▸ List.mem_cons_self,Nat.le_refl _,_,pushCells_keeps r _ _ _ (Heap.get?_push_size _ rfl),rfl⟩
    ·exact .inl hm
   ·rw [Heap.size_push] at h2
    exact .inr ⟨List.mem_cons_of_mem _ h1,Nat.le_of_succ_le h2,h3⟩
  ·rename_i hk
   rw [if_neg hk]
   rcases cells_mem hm with hm | ⟨h1,h2,h3⟩
   ·exact .inl hm
   ·exact .inr ⟨List.mem_cons_of_mem _ h1,h2,h3⟩
theorem cells_acc : ∀ {names : List (Str × NameKind)} {n : Nat} {acc : List (Str × Addr)} {p : Str × Addr},p ∈ acc → p ∈ cellsFrom n names acc
 | [],_,_,_,h => h
 | (m,k) :: r,n,acc,p,h => by
  unfold cellsFrom
  split
  ·exact cells_acc (List.mem_cons_of_mem _ h)
  ·exact cells_acc h
theorem cells_has : ∀ {names : List (Str × NameKind)} {n : Nat} {acc : List (Str × Addr)} {x : Str},(x,.cell) ∈ names → ∃ c,(x,c) ∈ cellsFrom n names acc
 | (m,k) :: r,n,acc,x,h => by
  unfold cellsFrom
  rcases List.mem_cons.mp h with e | h
  ·cases e
   exact ⟨n,cells_acc List.mem_cons_self⟩
  ·split
   ·exact cells_has h
   ·exact cells_has h
theorem cells_inj : ∀ {names : List (Str × NameKind)} {h : Heap} {acc : List (Str × Addr)} {x y : Str} {c : Addr},(∀ p ∈ acc,p.2 < h.objs.size) → (∀ x y c,(x,c) ∈ acc → (y,c) ∈ acc → x = y) →
  (x,c) ∈ cellsFrom h.objs.size names acc → (y,c) ∈ cellsFrom h.objs.size names acc → x = y
 | [],_,_,_,_,_,_,hi,h1,h2 => hi _ _ _ h1 h2
 | (n,k) :: r,h,acc,x,y,c,hl,hi,h1,h2 => by
  unfold cellsFrom at h1 h2
  split at h1
  ·rename_i hk
   rw [if_pos hk] at h2
   rw [← Heap.size_push h { cls := .type "cell",data := .cell none }] at h1 h2
   refine cells_inj (h := h.push _) (fun p hp => ?_) (fun x y c a b => ?_) h1 h2
   ·rw [Heap.size_push]
    rcases List.mem_cons.mp hp with rfl | hp
    ·exact Nat.lt_succ_self _
    ·exact Nat.lt_succ_of_lt (hl p hp)
   ·rcases List.mem_cons.mp a with e | a <;> rcases List.mem_cons.mp b with e' | b
    ·cases e; cases e'; rfl
    ·cases e; exact absurd (hl _ b) (Nat.lt_irrefl _)
    ·cases e'; exact absurd (hl _ a) (Nat.lt_irrefl _)
    ·exact hi _ _ _ a b
  ·rename_i hk
   rw [if_neg hk] at h2
   exact cells_inj hl hi h1 h2
theorem newEnv_comp {M : Model} {A : Around} {E : Value → Shared → Prop} {s : Shared} {scope : Scope} {globals : Addr} {closure : List (Str × Addr)} {qual : Str} {func : Option Addr} {code : Value} {around : Env} {builtins : Addr} {Q : Env → Shared → Prop}
  (h : Q (newEnv scope s.heap.objs.size globals (cellsFrom (s.heap.objs.size + 1) scope.names closure) qual func code (some around) builtins)
   { s with heap := pushCells (s.heap.push { cls := .type "dict",data := .dict #[] }) scope.names }) :
  wpAny M A (newFunctionEnv scope globals closure [] qual func code (some around) builtins) Q E s := by
 simp only [newFunctionEnv,Option.isSome_some,if_true]
 refine wpAny_bind (wpAny_alloc ?_)
 refine wpAny_bind (wpAny_layCells _ (fun n k c => rfl) scope.names closure _ _ ?_)
 rw [show ({ s with heap := s.heap.push { cls := .type "dict",data := .dict #[] } } : Shared).heap.objs.size = s.heap.objs.size + 1 from Heap.size_push ..]
 rw [List.forIn_nil]
 exact wpAny_bind (wpAny_pure (wpAny_pure h))
theorem lookup_relS {sc : Scope} : ∀ {names : List (Str × NameKind)} {x : Str} {k : NameKind},
  (names.map fun (n,k) => if (k == NameKind.free && sc.kind == .function && sc.names.lookup n == some .cell) then (n,NameKind.cell) else (n,k)).lookup x = some k →
  ∃ k',names.lookup x = some k' ∧ (k = k' ∨ (k' = .free ∧ k = .cell))
 | [],_,_,h => by simp at h
 | (n,k₀) :: r,x,k,h => by
  have ih := @lookup_relS sc r x k
  have h' : List.lookup x ((if (k₀ == NameKind.free && sc.kind == .function && sc.names.lookup n == some .cell) = true then (n,NameKind.cell) else (n,k₀)) :: (r.map _)) = some k := h
  cases hx : x == n with
  | true =>
   simp only [List.lookup_cons,hx]
   by_cases hc : (k₀ == NameKind.free && sc.kind == .function && sc.names.lookup n == some .cell) = true
   ·rw [if_pos hc] at h'
    simp only [List.lookup_cons,hx] at h'
    cases h'
    simp only [Bool.and_eq_true,beq_iff_eq] at hc
    exact ⟨k₀,rfl,.inr ⟨hc.1.1,rfl⟩⟩
   ·rw [if_neg hc] at h'
    simp only [List.lookup_cons,hx] at h'
    cases h'
    exact ⟨_,rfl,.inl rfl⟩
  | false =>
   simp only [List.lookup_cons,hx]
   by_cases hc : (k₀ == NameKind.free && sc.kind == .function && sc.names.lookup n == some .cell) = true
   ·rw [if_pos hc] at h'
    simp only [List.lookup_cons,hx] at h'
    exact ih h'
   ·rw [if_neg hc] at h'
    simp only [List.lookup_cons,hx] at h'
    exact ih h'
structure BlkOk (N : List Str) (sc scope : Scope) (own : List (Str × Nat)) : Prop where
 kind : scope.kind = .function
 uniq : ∀ y ∈ scope.names,scope.names.lookup y.1 = some y.2
 ix : ∀ p ∈ own,N[p.2]? = some p.1
 free : ∀ y ∈ scope.names,y.2 = .free → sc.names.lookup y.1 = some .cell ∨ sc.names.lookup y.1 = some .free
 own : ∀ y ∈ scope.names,y.2 = .local ∨ y.2 = .cell → y.1 ∈ own.map (·.1) ∨ y.1 ∉ N
def wipe (σ : St) : List Nat → St
 | [] => σ
 | v :: vs => (wipe σ vs).set v none
theorem wipe_length (σ : St) : ∀ vs : List Nat,(wipe σ vs).length = σ.length
 | [] => rfl
 | v :: vs => by unfold wipe; rw [List.length_set,wipe_length σ vs]
theorem wipe_some {σ : St} {i : Nat} {x : V} : ∀ {vs : List Nat},(wipe σ vs)[i]? = some (some x) → σ[i]? = some (some x) ∧ i ∉ vs
 | [],h => ⟨h,by simp⟩
 | v :: vs,h => by
  unfold wipe at h
  by_cases hi : v = i
  ·subst hi
   by_cases hv : v < (wipe σ vs).length
   ·rw [List.getElem?_set_self hv] at h; cases h
   ·rw [List.getElem?_eq_none (by simpa using hv)] at h; cases h
  ·rw [List.getElem?_set_ne hi] at h
   obtain ⟨h1,h2⟩ := wipe_some h
   exact ⟨h1,by simp only [List.mem_cons,not_or]; exact ⟨fun e => hi e.symm,h2⟩⟩
abbrev Cx.blk (X : Cx) (s : Shared) (H : Hp) (scope : Scope) (cenv : Env) (fp : List Addr) : Cx := { X with s_0 := s,H_0 := H,env := cenv,outer := X.stack,ex := fp,fn := fun x => scope.names.lookup x == some .cell,pn := [],xe := fun _ _ => False }
section
variable {X : Cx} {pins : List (Addr × Obj)} {σ : St} {H : Hp} {s : Shared}
theorem block_start {scope : Scope} {own : List (Str × Nat)} {fp : List Addr} (I : Inv X pins σ H s) (ok : BlkOk X.N X.env.scope scope own) (hN : X.N.Nodup) (hfp : ∀ b ∈ fp,FpOk X pins H b ∧ b < s.heap.objs.size) :
  Inv (X.blk s H scope (compEnvC scope (cellsFrom (s.heap.objs.size + 1) scope.names (cloFrom X.env.cells scope.names [])) s.heap.objs.size X.env) fp) [] (wipe σ (own.map (·.2))) H { s with heap := pushCells (s.heap.push { cls := .type "dict",data := .dict #[] }) scope.names } := by
 have hfree : ∀ y ∈ scope.names,y.2 = .free → ∃ c,X.env.cells.lookup y.1 = some c := fun y hy e => by
  rcases ok.free y hy e with k | k
  ·exact I.ok.has _ (.inl k)
  ·exact I.ok.has _ (.inr k)
 generalize hcenv : compEnvC scope (cellsFrom (s.heap.objs.size + 1) scope.names (cloFrom X.env.cells scope.names [])) s.heap.objs.size X.env = cenv
 have kp : ∀ b o,s.heap.get? b = some o → (pushCells (s.heap.push { cls := .type "dict",data := .dict #[] }) scope.names).get? b = some o := fun b o e => pushCells_keeps _ _ _ _ (Heap.get?_push_of_some _ e)
 have hL : cenv.locals = s.heap.objs.size := by rw [← hcenv]; rfl
 have hcl : cenv.cells = cellsFrom (s.heap.objs.size + 1) scope.names (cloFrom X.env.cells scope.names []) := by rw [← hcenv]; rfl
 have hsc : cenv.scope = relS scope X.env.scope := by rw [← hcenv]; rfl
 rw [← Heap.size_push s.heap { cls := .type "dict",data := .dict #[] }] at hcl
 have cm : ∀ {y c},(y,c) ∈ cloFrom X.env.cells scope.names [] → X.env.cells.lookup y = some c ∧ c < s.heap.objs.size := fun {y c} hm => by
  rcases cloFrom_mem hm with hm | ⟨h1,rfl⟩
  ·cases hm
  ·obtain ⟨c,hc⟩ := hfree _ h1 rfl
   rw [hc]
   obtain ⟨w,z⟩ := I.cell _ _ hc
   exact ⟨rfl,z.lt⟩
 have mem : ∀ {y c},cenv.cells.lookup y = some c → (X.env.cells.lookup y = some c ∧ c < s.heap.objs.size) ∨ (s.heap.objs.size + 1 ≤ c ∧ CellAt (pushCells (s.heap.push { cls := .type "dict",data := .dict #[] }) scope.names) c none) := fun {y c} e => by
  rw [hcl] at e
  rcases cells_mem (PySem.mem_of_lookup e) with hm | ⟨_,h2,h3⟩
  ·exact .inl (cm hm)
  ·rw [Heap.size_push] at h2; exact .inr ⟨h2,h3⟩
 have look : ∀ {y},scope.names.lookup y = some .free → ∃ c,cenv.cells.lookup y = some c ∧ X.env.cells.lookup y = some c := fun {y} hl => by
  have hy : (y,NameKind.free) ∈ scope.names := PySem.mem_of_lookup hl
  obtain ⟨c',e'⟩ := mem_lookup (cells_acc (names := scope.names) (n := (s.heap.push { cls := .type "dict",data := .dict #[] }).objs.size) (cloFrom_has (cells := X.env.cells) (acc := []) hy))
  rw [← hcl] at e'
  refine ⟨c',e',?_⟩
  rw [hcl] at e'
  rcases cells_mem (PySem.mem_of_lookup e') with hm | ⟨h1,_,_⟩
  ·exact (cm hm).1
  ·have := ok.uniq _ h1
   rw [hl] at this; cases this
 have okB : (X.blk s H scope cenv fp).Ok := by
  refine ⟨I.ok.mod,by show cenv.scope.kind = _; rw [hsc]; exact ok.kind,by show cenv.globals = _; rw [← hcenv]; exact I.ok.glob,by show cenv.builtins = _; rw [← hcenv]; exact I.ok.blt,by show s.heap.objs.size ≤ cenv.locals; rw [hL]; exact Nat.le_refl _,
   fun y z c e1 e2 => ?_,fun y hy => ?_,fun y c z e => ?_,I.ok.hd,I.ok.frames,.inl rfl,fun b hb => ⟨?_,fun y c e z => ?_⟩,I.bs,Nat.le_trans I.ok.bsz I.sz,fun b o e hb => ?_,fun b hb z => ?_,I.stack,I.stkFree⟩
  ·have e1 : cenv.cells.lookup y = some c := e1
   have e2 : cenv.cells.lookup z = some c := e2
   rw [hcl] at e1 e2
   refine cells_inj (fun p hp => ?_) (fun y z c a b => I.ok.inj y z c (cm a).1 (cm b).1) (PySem.mem_of_lookup e1) (PySem.mem_of_lookup e2)
   rw [Heap.size_push]
   exact Nat.lt_succ_of_lt (cm (y := p.1) (c := p.2) hp).2
  ·show ∃ c,cenv.cells.lookup y = some c
   have key : ∀ k,cenv.kindOf y = some k → (k = .cell ∨ k = .free) → ∃ c,cenv.cells.lookup y = some c := fun k hk hk' => by
    unfold Env.kindOf at hk
    rw [hsc] at hk
    obtain ⟨k',e,r⟩ := lookup_relS hk
    have : k' = .cell ∨ k' = .free := by
     rcases r with rfl | ⟨rfl,_⟩
     ·exact hk'
     ·exact .inr rfl
    rcases this with rfl | rfl
    ·obtain ⟨c,hm⟩ := cells_has (n := (s.heap.push { cls := .type "dict",data := .dict #[] }).objs.size) (acc := cloFrom X.env.cells scope.names []) (PySem.mem_of_lookup e)
     obtain ⟨c',e'⟩ := mem_lookup hm
     exact ⟨c',by rw [hcl]; exact e'⟩
    ·obtain ⟨c,h1,_⟩ := look e
     exact ⟨c,h1⟩
   rcases hy with hy | hy
   ·exact key _ hy (.inl rfl)
   ·exact key _ hy (.inr rfl)
  ·have z : (scope.names.lookup y == some NameKind.cell) = true := z
   have z : scope.names.lookup y = some .cell := by simpa using z
   have e : cenv.cells.lookup y = some c := e
   rw [hcl] at e
   rcases cells_mem (PySem.mem_of_lookup e) with hm | ⟨_,h2,_⟩
   ·rcases cloFrom_mem hm with hm | ⟨h1,_⟩
    ·cases hm
    ·have q := ok.uniq _ h1
     rw [z] at q; cases q
   ·rw [Heap.size_push] at h2
    exact Nat.le_of_succ_le h2
  ·show b ≠ cenv.locals
   rw [hL]; exact Nat.ne_of_lt (hfp b hb).2
  ·have e : cenv.cells.lookup y = some c := e
   rcases mem e with ⟨h1,_⟩ | ⟨h1,_⟩
   ·exact (hfp b hb).1.2.2.2.2.1 y c h1 z
   ·have h2 : s.heap.objs.size + 1 ≤ b := by rw [← z]; exact h1
    exact absurd (Nat.lt_of_lt_of_le (hfp b hb).2 (Nat.le_of_succ_le h2)) (Nat.lt_irrefl _)
  ·rcases (hfp b hb).1.2.2.2.1 with z | z
   ·exact I.ok.noex b o e z
   ·exact absurd (Nat.lt_of_lt_of_le (Heap.lt_size e) (Nat.le_trans I.ok.bsz z)) (Nat.lt_irrefl _)
  ·rcases List.mem_cons.mp (I.stkSub b z) with z | z
   ·exact (hfp b hb).1.2.1 z
   ·exact (hfp b hb).1.2.2.1 z
 refine ⟨okB,rfl,I.bare,Un.kept kp,⟨fun _ => none,?_,fun i y av e1 e2 e3 => ?_⟩,fun y c e => ?_,?_,fun y c e => ?_,fun p hp => ?_,I.hok.kept kp,by rw [wipe_length]; exact I.len⟩
 ·show Heap.Ns _ cenv.locals _
  rw [hL]
  exact Heap.Ns.keeps (Heap.Ns.new ..) fun b o e => pushCells_keeps _ _ _ _ e
 ·obtain ⟨e2,hne⟩ := wipe_some e2
  have hfr : scope.names.lookup y = some .free ∧ (cenv.kindOf y = some .cell ∨ cenv.kindOf y = some .free) := by
   have key : ∀ k,cenv.scope.names.lookup y = some k → k = .local ∨ k = .cell ∨ k = .free → scope.names.lookup y = some .free ∧ (cenv.kindOf y = some .cell ∨ cenv.kindOf y = some .free) := fun k hk hk' => by
    have hk0 := hk
    rw [hsc] at hk
    obtain ⟨k',e,r⟩ := lookup_relS hk
    have no : ¬ (k' = .local ∨ k' = .cell) := fun hh => by
     rcases ok.own _ (PySem.mem_of_lookup e) hh with e' | e'
     ·obtain ⟨p,hp,hpy⟩ := List.mem_map.mp e'
      have e3 := ok.ix p hp
      have : p.1 = y := hpy
      rw [this] at e3
      exact hne (List.mem_map.mpr ⟨p,hp,nodup_ix hN e3 e1⟩)
     ·exact e' (List.mem_of_getElem? e1)
    rcases r with rfl | ⟨rfl,rfl⟩
    ·rcases hk' with rfl | rfl | rfl
     ·exact absurd (.inl rfl) no
     ·exact absurd (.inr rfl) no
     ·exact ⟨e,.inr hk0⟩
    ·exact ⟨e,.inl hk0⟩
   have e3 : Vis cenv.scope y := e3
   rcases e3 with e3 | e3 | e3
   ·exact key _ e3 (.inl rfl)
   ·exact key _ e3 (.inr (.inl rfl))
   ·exact key _ e3 (.inr (.inr rfl))
  obtain ⟨m,hn,hl⟩ := I.loc
  have hvis : Vis X.env.scope y := (ok.free _ (PySem.mem_of_lookup hfr.1) rfl).elim (fun k => .inr (.inl k)) (fun k => .inr (.inr k))
  obtain ⟨w,r,q⟩ := hl i y av e1 e2 hvis
  refine ⟨w,r,.inr ⟨hfr.2,?_⟩⟩
  obtain ⟨c,h1,h2⟩ := look hfr.1
  rcases q with ⟨k,_⟩ | ⟨_,c',e',z⟩
  ·have k : X.env.scope.names.lookup y = some .local := k
   rcases ok.free _ (PySem.mem_of_lookup hfr.1) rfl with k' | k' <;> rw [show X.env.scope.names.lookup y = _ from k'] at k <;> cases k
  ·rw [h2] at e'; cases e'
   exact ⟨c,h1,z.keeps kp⟩
 ·have e : cenv.cells.lookup y = some c := e
  rcases mem e with ⟨h1,_⟩ | ⟨_,z⟩
  ·obtain ⟨w,z⟩ := I.cell y c h1
   exact ⟨w,z.keeps kp⟩
  ·exact ⟨_,z⟩
 ·show H cenv.locals = none
  rw [hL]; exact I.hok.fresh (Nat.le_refl _)
 ·have e : cenv.cells.lookup y = some c := e
  rcases mem e with ⟨h1,_⟩ | ⟨h1,_⟩
  ·exact I.freeC y c h1
  ·exact I.hok.fresh (Nat.le_of_succ_le h1)
 ·exact absurd (show p ∈ ([] : List (Addr × Obj)) ++ [] from hp) (by simp)
theorem app_ok {E : Value → Shared → Prop} {D : Addr} {xs : List V} {y : V} {v : Value} {Q : Value → Shared → Prop} (I : Inv X pins σ H s) (hD : H D = some (.lst xs)) (hz : xs.length < sizeLine) (r : RelV y v)
  (h : ∀ s',Inv X pins σ (upd H D (.lst (xs ++ [y]))) s' → Q .none s') : wpAny (model X.prog X.w) X.A (call (.builtin "list.append") [.ref D,v]) Q E s := by
 obtain ⟨hz',its,n,ri,e⟩ := I.hok D _ hD
 have hl := ri.length
 refine append_at (hsz := by rw [List.size_toArray]; omega) e fun h' sb ho' => ?_
 refine h { s with heap := h' } (I.write (t' := s.toks) (by rw [hD]; trivial) (.inl rfl) (fun b u hb q => (sb.2 b hb).trans q) ⟨_,ho'⟩ ⟨by rw [List.length_append]; exact hz,its ++ [v],n + 1,ri.append (.cons r .nil),?_⟩)
 rw [ho']
 simp
def PTs (X : Cx) (ifs : List Expr) (t : TT) : Prop :=
 ∀ (pins : List (Addr × Obj)) (s : Shared) (σ : St) (H : Hp) (Q : Bool → Hp → Prop),Inv X pins σ H s → t σ H Q →
  wpAny (model X.prog X.w) X.A (forIn ifs true fun c r => if r = true then do let ok ← isTrue c X.env (eval c X.env); pure (ForInStep.yield ok) else pure (ForInStep.yield r)) (TP X pins σ Q) X.xe s
def tYes : TT := fun _ H Q => Q true H
theorem pts_nil : PTs X [] tYes := fun _ _ _ H _ I h => wpAny_tests_nil ⟨H,I,h⟩
end
theorem thnF {α : Type} {t : Sem α} {Q Q' : α → Shared → Prop} {M : Model} {A : Around} {E : Value → Shared → Prop} {s : Shared} (h : wpAny M A t Q (fun _ _ => False) s) (hQ : ∀ a s,Q a s → Q' a s) : wpAny M A t Q' E s := wpAny_mono h hQ fun _ _ z => False.elim z
theorem compLoop_any {prog : Program} {w : World} {A : Around} {R : Result → Shared → Prop} {s : Shared} {elt target iter : Expr} {ifs : List Expr} {scope : Scope} {pos : Pos} {it acc : Value} {env : Env} (I : Nat → Shared → Prop)
  (turn : ∀ n s,I n s → wpAny (model prog w) A (pyNext it) (fun r s₁ => match r with
   | none => R (.ok .next) s₁
   | some v => wpAny (model prog w) A (letOwnedTupleGo target it v) (fun _ s₁' => wpAny (model prog w) A (assign target env v) (fun _ s₂ =>
     wpAny (model prog w) A (forIn ifs true fun c r => if r = true then do let ok ← isTrue c env (eval c env); pure (ForInStep.yield ok) else pure (ForInStep.yield r)) (fun ok s₃ =>
      if ok = true then wpAny (model prog w) A (eval elt env) (fun x s₄ =>
       wpAny (model prog w) A (call (.builtin "list.append") [acc,x]) (fun _ s₅ => ∃ m,m < n ∧ I m s₅) (notedBy (model prog w) A env fun e s' => R (.error e) s') s₄) (notedBy (model prog w) A env fun e s' => R (.error e) s') s₃
      else ∃ m,m < n ∧ I m s₃) (notedBy (model prog w) A env fun e s' => R (.error e) s') s₂) (notedBy (model prog w) A env fun e s' => R (.error e) s') s₁') (notedBy (model prog w) A env fun e s' => R (.error e) s') s₁) (notedBy (model prog w) A env fun e s' => R (.error e) s') s)
  (n : Nat) (h : I n s) :
  codeAny (model prog w) A (.compLoop (.ListComp elt [⟨target,iter,ifs,0⟩] scope pos) 0 it acc env) R s := by
 refine codeAny_loop rfl I (fun n s hI => ?_) n h
 show wpAny _ A ((compTurn (.ListComp elt [⟨target,iter,ifs,0⟩] scope pos) 0 it acc env).onRaise (fun x => do noteFrame x env; theTreesLotGoes x)) _ _ s
 refine wpAny_noted ?_
 rw [compTurn_list]
 refine wpAny_bind (wpAny_standAt (wpAny_bind (wpAny_mono (turn n s hI) (fun r s₁ h₁ => ?_) fun _ _ h' => h')))
 cases r with
 | none => exact wpAny_pure h₁
 | some v =>
  refine wpAny_bind (wpAny_mono h₁ (fun _ s₁' h₁' => ?_) fun _ _ h' => h')
  refine wpAny_bind (wpAny_mono h₁' (fun _ s₂ h₂ => wpAny_bind (wpAny_mono h₂ (fun ok s₃ h₃ => ?_) fun _ _ h' => h')) fun _ _ h' => h')
  cases ok with
  | false => exact wpAny_pure ⟨rfl,h₃⟩
  | true =>
   exact wpAny_bind (wpAny_bind (wpAny_mono h₃ (fun x s₄ h₄ => wpAny_bind (wpAny_mono h₄ (fun _ s₅ h₅ => wpAny_pure (wpAny_pure ⟨rfl,h₅⟩)) fun _ _ h' => h')) fun _ _ h' => h'))
section
variable {X : Cx}
def tLc (wi : TI) (g : TG) (tt : TT) (te : TE) (vs : List Nat) : TE := fun σ H Q => wi σ H fun J H1 => ∀ D,H1 D = none → ∃ W : Nat → Nat → Hp → Prop,(∃ m,W 0 m (upd H1 D (.lst []))) ∧ ∀ i m H,W i m H →
 (J.stop i H ∧ Q (.ref D) H) ∨ (J.go i H ∧ ∃ Nx : Hp → Prop,(∀ H',Nx H' → ∃ m',m' < m ∧ W (i + 1) m' H') ∧ ∀ x H',J.yld i H x H' → g x (wipe σ vs) H' fun σ2 H2 => wipe σ2 vs = wipe σ vs ∧ tt σ2 H2 fun b H3 =>
  if b = true then te σ2 H3 fun y H4 => ∃ acc,H4 D = some (.lst acc) ∧ acc.length < sizeLine ∧ Nx (upd H4 D (.lst (acc ++ [y]))) else Nx H3)
theorem lc_core {pins : List (Addr × Obj)} {s : Shared} {σ : St} {H : Hp} {Q : VK} {elt tg iter : Expr} {ifs : List Expr} {scope : Scope} {own : List (Str × Nat)} {pos pos' : Pos} {wi : TI} {g : TG} {tt : TT} {te : TE} {use : Option (Value → Sem Unit)} {Qf : Value → Shared → Prop}
  (hc : X.calm = true) (hN : X.N.Nodup) (I : Inv X pins σ H s) (hi : PI X tg iter wi) (ok : BlkOk X.N X.env.scope scope own)
  (hg : ∀ (s : Shared) (H : Hp) (C : Addr) (cl : List (Str × Addr)) (fp : List Addr),PG (X.blk s H scope (compEnvC scope cl C X.env) fp) tg g) (ht : ∀ (s : Shared) (H : Hp) (C : Addr) (cl : List (Str × Addr)) (fp : List Addr),PTs (X.blk s H scope (compEnvC scope cl C X.env) fp) ifs tt)
  (he : ∀ (s : Shared) (H : Hp) (C : Addr) (cl : List (Str × Addr)) (fp : List Addr),PE (X.blk s H scope (compEnvC scope cl C X.env) fp) elt te) (hs : ∀ x,foldedSetIterable iter X.env x = pure x)
  (h : tLc wi g tt te (own.map (·.2)) σ H Q)
  (hRR : ∀ D C s' m H',Inv X pins σ H' s' → Q (.ref D) H' → s'.heap.Ns C m → FpOk X pins H' C → compPost (model X.prog X.w) X.A X.xe use Qf (.ref D) C (.ok .next) s') :
  wpAny (model X.prog X.w) X.A (comprehension (.ListComp elt [⟨tg,iter,ifs,0⟩] scope pos) scope X.env pos' (newList []) false (eval iter X.env) use) Qf X.xe s := by
 have hfree : ∀ y ∈ scope.names,y.2 = .free → ∃ c,X.env.cells.lookup y.1 = some c := fun y hy e => by
  rcases ok.free y hy e with k | k
  ·exact I.ok.has _ (.inl k)
  ·exact I.ok.has _ (.inr k)
 refine wpAny_comprehension_free (use := use) rfl hs (closure_ok hfree) ok.kind (fun y hy e => by rw [ok.uniq y hy,e])
  (thn (hi pins s σ H _ I h) fun xv s1 hx => thn hx fun itv s2 h2 => ?_)
 obtain ⟨it,fp,tn,J,H2,e,I2,T,st2,f2,q⟩ := h2
 subst e
 refine wpAny_newObj_type (newEnv_comp ?_) (by show 0 ≤ sizeLine; decide)
 generalize hD : s2.heap.objs.size = D
 have hDn : H2 D = none := I2.hok.fresh (Nat.le_of_eq hD)
 obtain ⟨W,⟨m0,w0⟩,turn⟩ := q D hDn
 generalize hs3 : ({ s2 with heap := s2.heap.push { cls := .type "list",data := .seq ([] : List Value).toArray } } : Shared) = s3
 have I3 : Inv X pins σ (upd H2 D (.lst [])) s3 := by
  rw [← hs3]
  refine I2.laid (t' := s2.toks) (fun b o e => Heap.get?_push_of_some _ e) (Nat.le_of_eq hD) ⟨Nat.zero_le _,[],0,.nil,?_⟩
  rw [← hD]
  exact Heap.get?_push_size _ rfl
 have h3 : s3.heap = s2.heap.push { cls := .type "list",data := .seq ([] : List Value).toArray } := by rw [← hs3]
 have sz : ∀ b ∈ fp,b < s2.heap.objs.size := fun b hb => by
  obtain ⟨o,e,_⟩ := T.obj _ _ st2 b hb
  exact Heap.lt_size e
 have f3 : ∀ b ∈ fp,FpOk X pins (upd H2 D (.lst [])) b ∧ b < s3.heap.objs.size := fun b hb => by
  have hlt := sz b hb
  refine ⟨⟨?_,(f2 b hb).2⟩,by rw [h3,Heap.size_push]; exact Nat.lt_succ_of_lt hlt⟩
  rw [upd_ne (by rw [← hD]; exact Nat.ne_of_lt hlt)]
  exact (f2 b hb).1
 have st3 : tn 0 s3.heap := T.keep _ _ _ st2 fun b _ o e => by rw [h3]; exact Heap.get?_push_of_some _ e
 have I4 := block_start I3 ok hN f3
 have pg := hg s3 (upd H2 D (.lst [])) s3.heap.objs.size (cellsFrom (s3.heap.objs.size + 1) scope.names (cloFrom X.env.cells scope.names [])) fp
 have pt := ht s3 (upd H2 D (.lst [])) s3.heap.objs.size (cellsFrom (s3.heap.objs.size + 1) scope.names (cloFrom X.env.cells scope.names [])) fp
 have pe := he s3 (upd H2 D (.lst [])) s3.heap.objs.size (cellsFrom (s3.heap.objs.size + 1) scope.names (cloFrom X.env.cells scope.names [])) fp
 show codeAny _ _ (.compStart (.ListComp elt [⟨tg,iter,ifs,0⟩] scope pos) 0 (.ref it) (.ref D) (compEnvC scope (cellsFrom (s3.heap.objs.size + 1) scope.names (cloFrom X.env.cells scope.names [])) s3.heap.objs.size X.env)) (compPost (model X.prog X.w) X.A X.xe use Qf (.ref D) s3.heap.objs.size) { s3 with heap := pushCells (s3.heap.push { cls := .type "dict",data := .dict #[] }) scope.names }
 have nfp : ∀ b ∈ fp,(upd H2 D (.lst [])) b = none := fun b hb => (f3 b hb).1.1
 generalize hce : compEnvC scope (cellsFrom (s3.heap.objs.size + 1) scope.names (cloFrom X.env.cells scope.names [])) s3.heap.objs.size X.env = ce at I4 pg pt pe ⊢
 have cL : ce.locals = s3.heap.objs.size := by subst hce; rfl
 generalize hH3 : upd H2 D (.lst []) = H3 at I3 I4 pg pt pe w0 nfp f3
 generalize hs4 : ({ s3 with heap := pushCells (s3.heap.push { cls := .type "dict",data := .dict #[] }) scope.names } : Shared) = s4 at I4 ⊢
 have st4 : tn 0 s4.heap := T.keep _ _ _ st3 fun b _ o e => by rw [← hs4]; exact pushCells_keeps _ _ _ _ (Heap.get?_push_of_some _ e)
 have stat : ∀ {σ' : St} {H' : Hp} {s' : Shared},Inv (X.blk s3 H3 scope ce fp) [] σ' H' s' → (∀ b ∈ fp,H' b = none) → ∀ b ∈ fp,FpOk (X.blk s3 H3 scope ce fp) [] H' b := fun {σ' H' s'} I' hn b hb =>
  ⟨hn b hb,(I'.ok.exf b hb).1,I'.ok.exfs b hb,.inl hb,fun x c e => (I'.ok.exf b hb).2 x c e,fun p hp => absurd (show p ∈ ([] : List (Addr × Obj)) ++ [] from hp) (by simp)⟩
 have loop : codeAny (model X.prog X.w) X.A (.compLoop (.ListComp elt [⟨tg,iter,ifs,0⟩] scope pos) 0 (.ref it) (.ref D) ce) (compPost (model X.prog X.w) X.A X.xe use Qf (.ref D) s3.heap.objs.size) s4 := by
  refine compLoop_any (fun n s' => ∃ i H',Inv (X.blk s3 H3 scope ce fp) [] (wipe σ (own.map (·.2))) H' s' ∧ tn i s'.heap ∧ (∀ b ∈ fp,H' b = none) ∧ W i n H') ?_ m0 ⟨0,H3,I4,st4,nfp,w0⟩
  rintro n s5 ⟨i,H5,I5,st5,n5,w5⟩
  rcases turn i n H5 w5 with ⟨stop,qq⟩ | ⟨go,Nx,hNx,step⟩
  ·have td := T.done (X.blk s3 H3 scope ce fp) rfl rfl rfl hc i [] s5 _ H5 (fun _ _ => False) I5 (stat I5 n5) st5 stop
   refine thnF td fun r s6 ⟨hr,I6⟩ => ?_
   subst hr
   have I7 : Inv X pins σ H5 s6 := I3.call' (ch := fp) I6.os I6.base I6.hok I6.bare fun b hb => ⟨(f3 b hb).1.2.2.2.1,(f3 b hb).1.2.1,(f3 b hb).1.2.2.2.2.1,(f3 b hb).1.2.2.2.2.2⟩
   have nC : H5 s3.heap.objs.size = none := by
    have z : H5 ce.locals = none := I6.free
    rw [cL] at z
    exact z
   obtain ⟨m,hn,_⟩ := I6.loc
   have hn : s6.heap.Ns ce.locals m := hn
   rw [cL] at hn
   exact hRR D s3.heap.objs.size s6 m H5 I7 qq hn (I3.fpOk (Nat.le_refl _) nC)
  ·have ti := T.item (X.blk s3 H3 scope ce fp) rfl rfl rfl hc i [] s5 _ H5 (fun _ _ => False) I5 (stat I5 n5) st5 go
   refine thnF ti fun r s6 ⟨u,hr,h6⟩ => ?_
   subst hr
   refine thnF h6 fun _ s7 ⟨x,H7,I7,r7,y7,st7,n7⟩ => ?_
   have I7' := I7.pinned (stat I7 n7) (T.obj _ _ st7)
   refine thnF (pg _ s7 _ H7 x u _ I7' r7 (step x H7 y7)) fun _ s8 ⟨σ8,H8,I8,hw8,q8⟩ => ?_
   refine thnF (pt _ s8 σ8 H8 _ I8 q8) fun b s9 ⟨H9,I9,q9⟩ => ?_
   have fin : ∀ {s' : Shared} {H' : Hp},Inv (X.blk s3 H3 scope ce fp) ([] ++ pinsAt fp s7.heap) σ8 H' s' → Nx H' → ∃ m,m < n ∧ ∃ i H',Inv (X.blk s3 H3 scope ce fp) [] (wipe σ (own.map (·.2))) H' s' ∧ tn i s'.heap ∧ (∀ b ∈ fp,H' b = none) ∧ W i m H' := fun {s' H'} I' nx => by
    obtain ⟨m',hm,w'⟩ := hNx H' nx
    have pin' : ∀ b ∈ fp,∀ o,s7.heap.get? b = some o → s'.heap.get? b = some o ∧ H' b = none := fun b hb o e =>
     let z := I'.pin (b,o) (List.mem_append_right _ (List.mem_append_right _ (mem_pinsAt hb e)))
     ⟨z.1,z.2.1⟩
    have hl : (wipe σ (own.map (·.2))).length = σ8.length := by rw [← hw8,wipe_length]
    refine ⟨m',hm,i + 1,H',(I'.unpinned (pins := [])).weak hl (fun j v e => ?_),T.keep _ _ _ st7 fun b hb o e => (pin' b hb o e).1,fun b hb => ?_,w'⟩
    ·rw [← hw8] at e
     exact (wipe_some e).1
    ·obtain ⟨o,e,_⟩ := T.obj _ _ st7 b hb
     exact (pin' b hb o e).2
   cases b with
   | false =>
    simp only [Bool.false_eq_true,if_false] at q9 ⊢
    exact fin I9 q9
   | true =>
    simp only [if_true] at q9 ⊢
    refine thnF (pe _ s9 σ8 H9 _ I9 q9) fun z s10 ⟨yv,H10,I10,r10,acc,hD10,hz10,nx⟩ => ?_
    exact app_ok (X := X.blk s3 H3 scope ce fp) I10 hD10 hz10 r10 fun s11 I11 => fin I11 nx
 exact codeAny_compStart_list loop (T.self X.A 0 _ _ _ st4 loop)
theorem pe_lc {elt tg iter : Expr} {ifs : List Expr} {scope : Scope} {own : List (Str × Nat)} {pos : Pos} {wi : TI} {g : TG} {tt : TT} {te : TE} (hc : X.calm = true) (hN : X.N.Nodup) (hi : PI X tg iter wi) (ok : BlkOk X.N X.env.scope scope own)
  (hg : ∀ (s : Shared) (H : Hp) (C : Addr) (cl : List (Str × Addr)) (fp : List Addr),PG (X.blk s H scope (compEnvC scope cl C X.env) fp) tg g) (ht : ∀ (s : Shared) (H : Hp) (C : Addr) (cl : List (Str × Addr)) (fp : List Addr),PTs (X.blk s H scope (compEnvC scope cl C X.env) fp) ifs tt)
  (he : ∀ (s : Shared) (H : Hp) (C : Addr) (cl : List (Str × Addr)) (fp : List Addr),PE (X.blk s H scope (compEnvC scope cl C X.env) fp) elt te) (hs : ∀ x,foldedSetIterable iter X.env x = pure x := by intro _; rfl) :
  PE X (.ListComp elt [⟨tg,iter,ifs,0⟩] scope pos) (tLc wi g tt te (own.map (·.2))) := by
 intro pins s σ H Q I h
 rw [eval_ListComp]
 refine lc_core hc hN I hi ok hg ht he hs h fun D C s' m H' I' q hn f => ⟨m,hn,fun h'' sb => ?_⟩
 obtain ⟨f0,f1,f2,f3,f4,f5⟩ := f
 exact ⟨.ref D,H',I'.turned (t' := s'.toks) (fun b o hb e => (sb.2 b hb).trans e) f0 f1 f3 f4 f5,rfl,q⟩
end
theorem lc_list {K : PySem.W.Frag} {a : Addr} {xs : List V} {g : TG} {tt : TT} {te : TE} {vs : List Nat} {σ : St} {H1 : Hp} {D : Addr} {Qd : Hp → Prop} (Pv : Nat → Hp → Prop) (h0 : Pv 0 (upd H1 D (.lst []))) (hl : ∀ i H,i ≤ xs.length → Pv i H → SqL K H a xs)
  (hs : ∀ i x H,xs[i]? = some x → Pv i H → g x (wipe σ vs) H fun σ2 H2 => wipe σ2 vs = wipe σ vs ∧ tt σ2 H2 fun b H3 =>
   if b = true then te σ2 H3 fun y H4 => ∃ acc,H4 D = some (.lst acc) ∧ acc.length < sizeLine ∧ Pv (i + 1) (upd H4 D (.lst (acc ++ [y]))) else Pv (i + 1) H3) (hd : ∀ H,Pv xs.length H → Qd H) :
  ∃ W : Nat → Nat → Hp → Prop,(∃ m,W 0 m (upd H1 D (.lst []))) ∧ ∀ i m H,W i m H →
   ((Itl K a).stop i H ∧ Qd H) ∨ ((Itl K a).go i H ∧ ∃ Nx : Hp → Prop,(∀ H',Nx H' → ∃ m',m' < m ∧ W (i + 1) m' H') ∧ ∀ x H',(Itl K a).yld i H x H' → g x (wipe σ vs) H' fun σ2 H2 => wipe σ2 vs = wipe σ vs ∧ tt σ2 H2 fun b H3 =>
    if b = true then te σ2 H3 fun y H4 => ∃ acc,H4 D = some (.lst acc) ∧ acc.length < sizeLine ∧ Nx (upd H4 D (.lst (acc ++ [y]))) else Nx H3) := by
 refine ⟨fun i m H => m = xs.length - i ∧ i ≤ xs.length ∧ Pv i H,⟨xs.length,by simp,Nat.zero_le _,h0⟩,?_⟩
 rintro i m H ⟨rfl,hi,p⟩
 have q := hl i H hi p
 by_cases hlt : i < xs.length
 ·refine .inr ⟨⟨xs,xs[i],q,by simp [hlt]⟩,Pv (i + 1),fun H' p' => ⟨xs.length - (i + 1),by omega,rfl,hlt,p'⟩,fun x H' y => ?_⟩
  obtain ⟨e,y⟩ := y
  subst e
  exact hs i x _ (y xs q) p
 ·have e : i = xs.length := by omega
  subst e
  exact .inl ⟨⟨xs,q,Nat.le_refl _⟩,hd H p⟩
def blkC (N : List Str) (sc scope : Scope) (own : List (Str × Nat)) : Bool :=
 (match scope.kind with | .function => true | _ => false) && (scope.names.all fun y => decide (scope.names.lookup y.1 = some y.2)) && (own.all fun p => decide (N[p.2]? = some p.1)) &&
  (scope.names.all fun y => match y.2 with
   | .free => (match sc.names.lookup y.1 with | some .cell => true | some .free => true | _ => false)
   | .local => decide (y.1 ∈ own.map (·.1)) || decide (y.1 ∉ N)
   | .cell => decide (y.1 ∈ own.map (·.1)) || decide (y.1 ∉ N)
   | _ => true)
theorem blkOk_by {N : List Str} {sc scope : Scope} {own : List (Str × Nat)} (h : blkC N sc scope own = true) : BlkOk N sc scope own := by
 unfold blkC at h
 simp only [Bool.and_eq_true,List.all_eq_true,decide_eq_true_eq] at h
 obtain ⟨⟨⟨h1,h2⟩,h3⟩,h4⟩ := h
 refine ⟨?_,h2,h3,fun y hy e => ?_,fun y hy e => ?_⟩
 ·split at h1
  ·assumption
  ·cases h1
 ·have q := h4 y hy
  simp only [e] at q
  split at q <;> first | exact .inl (by assumption) | exact .inr (by assumption) | cases q
 ·have q := h4 y hy
  rcases e with e | e <;> (simp only [e,Bool.or_eq_true,decide_eq_true_eq] at q; exact q)
end L2
namespace L2
open PySem PySem.Spec PyProof.Rows
section
variable {prog : Program} {w : World} {A : Around} {R : Result → Shared → Prop} {s : Shared} {elt t0 i0 t1 i1 : Expr} {ifs0 ifs1 : List Expr} {scope : Scope} {pos : Pos} {it acc : Value} {env : Env}
end
section
variable {X : Cx}
end
end L2
namespace L2
open PySem PySem.Spec PyProof.Rows
section
variable {κ : Type} [DecidableEq κ]
def valV (kvs : List (κ × V)) (k : κ) : Option V := (kvs.find? fun kv => decide (kv.1 = k)).map (·.2)
def putK (kvs : List (κ × V)) (k : κ) (v : V) : List (κ × V) :=
 if (kvs.any fun kv => decide (kv.1 = k)) = true then kvs.map (fun kv => if kv.1 = k then (kv.1,v) else kv) else kvs ++ [(k,v)]
theorem valV_pos {p : κ × V} {r : List (κ × V)} {k : κ} (e : p.1 = k) : valV (p :: r) k = some p.2 := by simp [valV,List.find?_cons,e]
theorem valV_neg {p : κ × V} {r : List (κ × V)} {k : κ} (e : ¬ p.1 = k) : valV (p :: r) k = valV r k := by simp [valV,List.find?_cons,e]
theorem valV_any (k : κ) : ∀ kvs : List (κ × V),(kvs.any fun kv => decide (kv.1 = k)) = (valV kvs k).isSome
 | [] => rfl
 | p :: r => by
  rw [List.any_cons]
  by_cases e : p.1 = k
  ·simp only [valV_pos e,decide_eq_true e,Bool.true_or,Option.isSome_some]
  ·rw [valV_neg e,decide_eq_false e,Bool.false_or]; exact valV_any k r
theorem valV_map (k j : κ) (y : V) : ∀ kvs : List (κ × V),valV (kvs.map fun kv => if kv.1 = k then (kv.1,y) else kv) j = (valV kvs j).map fun x => if j = k then y else x
 | [] => rfl
 | p :: r => by
  have ih := valV_map k j y r
  rw [List.map_cons]
  by_cases h : p.1 = k
  ·rw [if_pos h]
   by_cases e : p.1 = j
   ·rw [valV_pos (p := (p.1,y)) e,valV_pos e,Option.map_some,if_pos (e.symm.trans h)]
   ·rw [valV_neg (p := (p.1,y)) e,valV_neg e,ih]
  ·rw [if_neg h]
   by_cases e : p.1 = j
   ·rw [valV_pos (p := p) e,valV_pos e,Option.map_some,if_neg (fun z => h (e.trans z))]
   ·rw [valV_neg (p := p) e,valV_neg e,ih]
theorem valV_snoc (k j : κ) (y : V) : ∀ kvs : List (κ × V),valV kvs k = none → valV (kvs ++ [(k,y)]) j = if j = k then some y else valV kvs j
 | [],_ => by
  by_cases e : k = j
  ·rw [if_pos e.symm]; exact valV_pos (p := (k,y)) e
  ·rw [if_neg (fun z => e z.symm)]; exact valV_neg (p := (k,y)) e
 | p :: r,hn => by
  rw [List.cons_append]
  have hk : ¬ p.1 = k := fun z => by rw [valV_pos z] at hn; cases hn
  rw [valV_neg hk] at hn
  have ih := valV_snoc k j y r hn
  by_cases e : p.1 = j
  ·rw [valV_pos e,valV_pos e,if_neg (fun z => hk (e.trans z))]
  ·rw [valV_neg e,valV_neg e,ih]
theorem valV_put (kvs : List (κ × V)) (k j : κ) (y : V) : valV (putK kvs k y) j = if j = k then some y else valV kvs j := by
 unfold putK
 by_cases a : (kvs.any fun kv => decide (kv.1 = k)) = true
 ·rw [if_pos a,valV_map]
  rw [valV_any] at a
  by_cases e : j = k
  ·obtain ⟨x,hx⟩ := Option.isSome_iff_exists.mp a
   rw [if_pos e,e,hx,Option.map_some,if_pos rfl]
  ·rw [if_neg e]
   cases valV kvs j with
   | none => rfl
   | some x => rw [Option.map_some,if_neg e]
 ·rw [if_neg a]
  refine valV_snoc k j y kvs ?_
  rw [valV_any] at a
  cases q : valV kvs k with
  | none => rfl
  | some x => rw [q] at a; exact (a rfl).elim
theorem length_putK (kvs : List (κ × V)) (k : κ) (v : V) : (putK kvs k v).length ≤ kvs.length + 1 := by
 unfold putK
 split
 ·rw [List.length_map]; omega
 ·rw [List.length_append,List.length_cons,List.length_nil]; omega
theorem RelO.isSome_eq {o : Option V} {u : Option Value} (r : RelO o u) : o.isSome = u.isSome := by
 cases o with
 | none => cases u with
  | none => rfl
  | some _ => exact (show False from r).elim
 | some _ => cases u with
  | none => exact (show False from r).elim
  | some _ => rfl
theorem KV.val {kvs : List (κ × V)} {vs : List (κ × Value)} (r : KV kvs vs) (k : κ) : RelO (valV kvs k) (valueAt vs k) := by
 unfold KV at r
 induction r with
 | nil => exact True.intro
 | @cons p q ps qs h t ih =>
  obtain ⟨h1,h2⟩ := h
  by_cases e : p.1 = k
  ·have e' : q.1 = k := h1.symm.trans e
   have b : valueAt (q :: qs) k = some q.2 := by simp [valueAt,List.find?_cons,e']
   rw [valV_pos e,b]; exact h2
  ·have e' : ¬ q.1 = k := fun z => e (h1.trans z)
   have b : valueAt (q :: qs) k = valueAt qs k := by simp [valueAt,List.find?_cons,e']
   rw [valV_neg e,b]; exact ih
theorem KV.any {kvs : List (κ × V)} {vs : List (κ × Value)} (r : KV kvs vs) (k : κ) : (kvs.any fun kv => decide (kv.1 = k)) = vs.any fun kv => decide (kv.1 = k) := by
 unfold KV at r
 induction r with
 | nil => rfl
 | cons h t ih => rw [List.any_cons,List.any_cons,ih,h.1]
theorem KV.repl {kvs : List (κ × V)} {vs : List (κ × Value)} (r : KV kvs vs) (k : κ) {y : V} {u : Value} (ry : RelV y u) :
  KV (kvs.map fun kv => if kv.1 = k then (kv.1,y) else kv) (vs.map fun kv => if kv.1 = k then (kv.1,u) else kv) := by
 unfold KV at r ⊢
 induction r with
 | nil => exact .nil
 | @cons p q ps qs h t ih =>
  rw [List.map_cons,List.map_cons]
  refine .cons ?_ ih
  obtain ⟨h1,h2⟩ := h
  by_cases e : p.1 = k
  ·rw [if_pos e,if_pos (h1.symm.trans e)]; exact ⟨h1,ry⟩
  ·rw [if_neg e,if_neg (fun z => e (h1.trans z))]; exact ⟨h1,h2⟩
theorem KV.put {kvs : List (κ × V)} {vs : List (κ × Value)} (r : KV kvs vs) (k : κ) {y : V} {u : Value} (ry : RelV y u) : KV (putK kvs k y) (stored vs k u) := by
 unfold putK stored
 rw [r.any k]
 by_cases e : (vs.any fun kv => decide (kv.1 = k)) = true
 ·rw [if_pos e,if_pos e]; exact r.repl k ry
 ·rw [if_neg e,if_neg e]; exact Paired.snoc r ⟨rfl,ry⟩
theorem KV.length {kvs : List (κ × V)} {vs : List (κ × Value)} (r : KV kvs vs) : kvs.length = vs.length := Paired.length r
end
theorem kV_is {P : Program} {w : World} {k : Key} {u : Value} (r : RelV (kV k) u) : (mixKind P w).is k u = true := by
 cases k with
 | inl i => obtain ⟨t,e⟩ := (show ∃ t,u = Value.int i t from r); subst e; exact mixKind_int P w i t
 | inr x => obtain ⟨t,e⟩ := (show ∃ t,u = Value.str x t from r); subst e; exact mixKind_str P w x t
theorem items_are {P : Program} {w : World} : ∀ {ks : List Key} {us : List Value},Vals (ks.map kV) us → ItemsAre (mixKind P w) ks us
 | [],_,r => by rw [List.map_nil] at r; cases r; exact .nil
 | k :: ks,_,r => by
  rw [List.map_cons] at r
  cases r with
  | cons h t => exact .cons (kV_is h) (items_are t)
abbrev KT (H : Hp) : List (List Key × V) → List (List Key × Addr × Value) → Prop := Paired fun p q => p.1 = q.1 ∧ H q.2.1 = some (.tup (p.1.map kV)) ∧ RelV p.2 q.2.2
theorem KT.val {H : Hp} {kvs : List (List Key × V)} {xs : List (List Key × Addr × Value)} (r : KT H kvs xs) (k : List Key) : RelO (valV kvs k) ((atKey xs k).map (·.2)) := by
 induction r with
 | nil => exact True.intro
 | @cons p q ps qs h t ih =>
  obtain ⟨h1,_,h2⟩ := h
  by_cases e : p.1 = k
  ·have e' : q.1 = k := h1.symm.trans e
   have b : atKey (q :: qs) k = some q.2 := by simp [atKey,List.find?_cons,e']
   rw [valV_pos e,b]; exact h2
  ·have e' : ¬ q.1 = k := fun z => e (h1.trans z)
   have b : atKey (q :: qs) k = atKey qs k := by simp [atKey,List.find?_cons,e']
   rw [valV_neg e,b]; exact ih
theorem KT.repl {H : Hp} {kvs : List (List Key × V)} {xs : List (List Key × Addr × Value)} (r : KT H kvs xs) (k : List Key) {y : V} {u : Value} (ry : RelV y u) :
  KT H (kvs.map fun kv => if kv.1 = k then (kv.1,y) else kv) (xs.map (putAt k u)) := by
 induction r with
 | nil => exact .nil
 | @cons p q ps qs h t ih =>
  rw [List.map_cons,List.map_cons]
  refine .cons ?_ ih
  obtain ⟨h1,h2,h3⟩ := h
  unfold putAt
  by_cases e : p.1 = k
  ·rw [if_pos e,if_pos (h1.symm.trans e)]; exact ⟨h1,h2,ry⟩
  ·rw [if_neg e,if_neg (fun z => e (h1.trans z))]; exact ⟨h1,h2,h3⟩
theorem KT.put {H : Hp} {kvs : List (List Key × V)} {xs : List (List Key × Addr × Value)} (r : KT H kvs xs) (k : List Key) {b : Addr} {y : V} {u : Value} (hb : H b = some (.tup (k.map kV))) (ry : RelV y u) :
  KT H (putK kvs k y) (storedH xs k b u) := by
 have e : (kvs.any fun kv => decide (kv.1 = k)) = (atKey xs k).isSome := by
  rw [valV_any,(r.val k).isSome_eq,Option.isSome_map]
 unfold putK storedH
 rw [e]
 by_cases q : (atKey xs k).isSome = true
 ·rw [if_pos q,if_pos q]; exact r.repl k ry
 ·rw [if_neg q,if_neg q]; exact Paired.snoc r ⟨rfl,hb,ry⟩
theorem KT.keeps {H H' : Hp} {kvs : List (List Key × V)} {xs : List (List Key × Addr × Value)} (r : KT H kvs xs) (ht : ∀ b ys,H b = some (.tup ys) → H' b = some (.tup ys)) : KT H' kvs xs :=
 Paired.mapP r fun _ _ z => ⟨z.1,ht _ _ z.2.1,z.2.2⟩
section
variable {P : Program} {w : World} {H : Hp} {h : Heap} {a : Addr}
theorem rd_of {u : HO} (ok : HOk P w H h) (e : Rd H a u) : ObjOk P w H h a u := e.ok ok
theorem dk_rd {kvs : List (Key × V)} (ok : HOk P w H h) (e : Rd H a (.dK kvs)) : kvs.length ≤ sizeLine ∧ (a == sysModules) = false ∧ ∃ vs,KV kvs vs ∧ h.DictOf (mixKind P w) a vs :=
 show ObjOk P w H h a (.dK kvs) from rd_of ok e
theorem dk_of {kvs : List (Key × V)} (ok : HOk P w H h) (e : H a = some (.dK kvs)) : kvs.length ≤ sizeLine ∧ (a == sysModules) = false ∧ ∃ vs,KV kvs vs ∧ h.DictOf (mixKind P w) a vs := dk_rd ok (.inl e)
theorem key_of {ks : List Key} (ok : HOk P w H h) (e : H a = some (.tup (ks.map kV))) : (tupleKind (mixKind P w)).is h ks a := by
 obtain ⟨_,its,r,o,h1,h2,n,h3⟩ := (show ObjOk P w H h a (.tup (ks.map kV)) from ok a _ e)
 exact ⟨o,its.toArray,n,h1,h2,h3,by simpa using items_are r⟩
theorem dt_rd {kvs : List (List Key × V)} (ok : HOk P w H h) (e : Rd H a (.dT kvs)) : kvs.length ≤ sizeLine ∧ (a == sysModules) = false ∧
  ∃ xs,KT H kvs xs ∧ h.DictOfH (tupleKind (mixKind P w)) a xs := by
 obtain ⟨z,y,xs,r,o,es,ep,h1,h2,h3,h4,h5⟩ := (show ObjOk P w H h a (.dT kvs) from rd_of ok e)
 refine ⟨z,y,xs,r,o,es,ep,h1,h2,h3,h4,fun x hx => ?_,h5⟩
 have all : ∀ {l : List (List Key × V)} {m : List (List Key × Addr × Value)},KT H l m → ∀ x ∈ m,(tupleKind (mixKind P w)).is h x.1 x.2.1 := by
  intro l m q
  induction q with
  | nil => intro x hx; exact nomatch hx
  | @cons p q ps qs hq t ih =>
   intro x hx
   rcases List.mem_cons.mp hx with e | hx
   ·subst e
    exact key_of ok (by rw [← hq.1]; exact hq.2.1)
   ·exact ih x hx
 exact all r x hx
theorem dt_of {kvs : List (List Key × V)} (ok : HOk P w H h) (e : H a = some (.dT kvs)) : kvs.length ≤ sizeLine ∧ (a == sysModules) = false ∧
  ∃ xs,KT H kvs xs ∧ h.DictOfH (tupleKind (mixKind P w)) a xs := dt_rd ok (.inl e)
end
def DGet (H : Hp) (a : Addr) (y : V) (r : Option V) : Prop :=
 (∃ kvs k,Rd H a (.dK kvs) ∧ y = kV k ∧ r = valV kvs k) ∨ ∃ kvs k b,Rd H a (.dT kvs) ∧ y = .ref b ∧ H b = some (.tup (k.map kV)) ∧ r = valV kvs k
def DPut (H : Hp) (a : Addr) (y v : V) (H' : Hp) : Prop :=
 (∃ kvs k,H a = some (.dK kvs) ∧ y = kV k ∧ kvs.length < sizeLine ∧ H' = upd H a (.dK (putK kvs k v))) ∨
 ∃ kvs k b,H a = some (.dT kvs) ∧ y = .ref b ∧ H b = some (.tup (k.map kV)) ∧ kvs.length < sizeLine ∧ H' = upd H a (.dT (putK kvs k v))
theorem DGet.k {H : Hp} {a : Addr} {kvs : List (Key × V)} {k : Key} (e : H a = some (.dK kvs)) : DGet H a (kV k) (valV kvs k) := .inl ⟨kvs,k,.inl e,rfl,rfl⟩
theorem DPut.k {H : Hp} {a : Addr} {kvs : List (Key × V)} {k : Key} {v : V} (e : H a = some (.dK kvs)) (hl : kvs.length < sizeLine) : DPut H a (kV k) v (upd H a (.dK (putK kvs k v))) := .inl ⟨kvs,k,e,rfl,hl,rfl⟩
section
variable {X : Cx} {pins : List (Addr × Obj)} {σ : St} {H : Hp} {s : Shared} {a : Addr} {y v : V} {u r : Value} {o : Option V} {A : Around} {E : Value → Shared → Prop}
theorem Inv.big (I : Inv X pins σ H s) : sysModules < s.heap.objs.size := by
 have h : mainGlobals < s.heap.objs.size := (I.mod.glob.keeps I.bk).lt
 exact Nat.lt_trans (by decide) h
theorem d_getItem {Q : Value → Shared → Prop} (hu : A.units + 1 < cLine) (I : Inv X pins σ H s) (g : DGet H a y (some v)) (ry : RelV y u) (h : ∀ w' s',Inv X pins σ H s' → RelV v w' → Q w' s') :
  wpAny (model X.prog X.w) A (getItem (.ref a) u) Q E s := by
 rcases g with ⟨kvs,k,e,ey,l⟩ | ⟨kvs,k,b,e,ey,eb,l⟩
 ·subst ey
  obtain ⟨z,hd,vs,rel,dd⟩ := dk_rd I.hok e
  obtain ⟨w',hw,rw'⟩ := RelO.some_of (v := v) (o := valueAt vs k) (by rw [l]; exact rel.val k)
  exact wpAny_getItem_of (kV_is ry) dd.mapOf hw (h w' _ (I.tok _) rw')
 ·subst ey
  cases (show u = Value.ref b from ry)
  obtain ⟨z,hd,xs,rel,dd⟩ := dt_rd I.hok e
  obtain ⟨w',hw,rw'⟩ := RelO.some_of (v := v) (o := (atKey xs k).map (·.2)) (by rw [l]; exact rel.val k)
  obtain ⟨p,hp,hp2⟩ := Option.map_eq_some_iff.mp hw
  refine wpAny_getItem_heap (tupleKind_room_in1 hu) (key_of I.hok eb) dd hp ?_
  rw [hp2]
  exact h w' _ (I.tok _) rw'
theorem d_notIn {Q : Value → Shared → Prop} (hu : A.units + 1 < cLine) (I : Inv X pins σ H s) (g : DGet H a y o) (ry : RelV y u) (h : ∀ s',Inv X pins σ H s' → Q (.bool (!o.isSome)) s') :
  wpAny (model X.prog X.w) A (compareOp .NotIn u (.ref a)) Q E s := by
 rcases g with ⟨kvs,k,e,ey,l⟩ | ⟨kvs,k,b,e,ey,eb,l⟩
 ·subst ey
  obtain ⟨z,hd,vs,rel,dd⟩ := dk_rd I.hok e
  refine wpAny_notIn_of (kV_is ry) hd dd.mapOf ?_
  rw [← (rel.val k).isSome_eq,← l]
  exact h _ (I.tok _)
 ·subst ey
  cases (show u = Value.ref b from ry)
  obtain ⟨z,hd,xs,rel,dd⟩ := dt_rd I.hok e
  refine wpAny_notIn_heap (tupleKind_room_in1 hu) (key_of I.hok eb) hd dd ?_
  have q := (rel.val k).isSome_eq
  rw [Option.isSome_map] at q
  rw [← q,← l]
  exact h _ (I.tok _)
theorem d_write {h' : Heap} {t' : Nat} {ob : HO} (I : Inv X pins σ H s) (mu : Mut (H a)) (hs : Heap.SameBut a s.heap h') (he : ∃ q,h'.get? a = some q) (new : ObjOk X.prog X.w (upd H a ob) h' a ob) :
  Inv X pins σ (upd H a ob) { s with heap := h',toks := t' } :=
 I.write (x := a) (e := a) mu (.inl rfl) (fun b q hb z => (hs.2 b hb).trans z) he new
theorem dk_new {P : Program} {w : World} {H' : Hp} {h' : Heap} {kvs : List (Key × V)} {vs : List (Key × Value)} (z : kvs.length ≤ sizeLine) (hd : (a == sysModules) = false) (rel : KV kvs vs) (dd : h'.DictOf (mixKind P w) a vs) :
  ObjOk P w H' h' a (.dK kvs) := ⟨z,hd,vs,rel,dd⟩
theorem d_setItem {H' : Hp} {Q : Unit → Shared → Prop} (hu : A.units + 1 < cLine) (I : Inv X pins σ H s) (g : DPut H a y v H') (ry : RelV y u) (rv : RelV v r) (h : ∀ s',Inv X pins σ H' s' → Q () s') :
  wpAny (model X.prog X.w) A (setItem (.ref a) u r) Q E s := by
 rcases g with ⟨kvs,k,e,ey,l,eH⟩ | ⟨kvs,k,b,e,ey,eb,l,eH⟩
 ·subst ey eH
  obtain ⟨z,hd,vs,rel,dd⟩ := dk_of I.hok e
  have hz : vs.length ≤ sizeLine := by rw [← rel.length]; exact z
  have hl : (putK kvs k v).length ≤ sizeLine := by have := length_putK kvs k v; omega
  refine wpAny_setItem_pairs (hsz := hz) (kV_is ry) dd fun h' dd' hs => h _ ?_
  have he : ∃ q,h'.get? a = some q := let ⟨q,_,_,hq,_⟩ := dd'; ⟨q,hq⟩
  exact d_write I (by rw [e]; exact True.intro) hs he (dk_new hl hd (rel.put k rv) dd')
 ·subst ey eH
  cases (show u = Value.ref b from ry)
  obtain ⟨z,hd,xs,rel,dd⟩ := dt_of I.hok e
  have hz : xs.length ≤ sizeLine := by rw [← Paired.length rel]; exact z
  have hl : (putK kvs k v).length ≤ sizeLine := by have := length_putK kvs k v; omega
  refine wpAny_setItem_heap (hsz := hz) (tupleKind_room_in1 hu) (key_of I.hok eb) dd fun h' dd' hs => h _ ?_
  obtain ⟨q,es,ep,hq,h2,h3,h4,_,h5⟩ := dd'
  refine d_write I (by rw [e]; exact True.intro) hs ⟨q,hq⟩ ⟨hl,hd,_,(rel.put k eb rv).keeps fun c ys ec => ?_,q,es,ep,hq,h2,h3,h4,h5⟩
  rw [upd_ne (ne_of ec e (fun z => nomatch z))]
  exact ec
end
section
variable {X : Cx} {pins : List (Addr × Obj)} {σ : St} {H : Hp} {s : Shared} {a : Addr} {kvs : List (Key × V)} {k : Key} {u : Value} {A : Around} {E : Value → Shared → Prop}
end
def NoSl (i : Expr) : Prop := ∀ ov iv,subscripted i false ov iv = operate [ov,iv] (getItem ov iv)
theorem subD_of {prog : Program} {w : World} {A : Around} {E : Value → Shared → Prop} {s : Shared} {env : Env} {value slice : Expr} {pos : Pos} {T id : String} {Q : Value → Shared → Prop}
  (hl : typeLookup (.type T) "__getitem__" = pure (some (.builtin id))) (hs : NoSl slice)
  (h : wpAny (model prog w) A (eval value env) (fun o s₁ => wpAny (model prog w) A (eval slice env) (fun i s₂ => s₂.TypeIs o T ∧ wpAny (model prog w) A (getItem o i) Q E s₂) E s₁) E s) :
  wpAny (model prog w) A (eval (.Subscript value slice pos) env) Q E s := by
 refine Subscript_ (wpAny_mono h (fun o s₁ h₁ => wpAny_mono h₁ (fun i s₂ h₂ => ?_) fun _ _ x => x) fun _ _ x => x)
 obtain ⟨hT,h₂⟩ := h₂
 unfold subscriptTail
 refine wpAny_bind ?_
 rw [getitemInPython_of_ne hT.not_modules]
 refine wpAny_bind (wpAny_specialOf hT hl ?_)
 have fin : wpAny (model prog w) A (subscripted slice false o i) (fun r s₃ => wpAny (model prog w) A (letTemporaryGo value o r >>= fun _ => pure r) Q E s₃) E s₂ := by
  rw [hs o i]
  exact wpAny_operating (wpAny_mono h₂ (fun r s₃ h₃ => wpAny_bind (wpAny_letTemporaryGo (wpAny_pure h₃))) fun _ _ x => x)
 first
  | exact wpAny_pure (wpAny_bind fin)
  | exact wpAny_bind (wpAny_pure (wpAny_bind fin))
  | exact wpAny_bind fin
theorem dict_typeIs {X : Cx} {pins : List (Addr × Obj)} {σ : St} {H : Hp} {s : Shared} {a : Addr} {y : V} {o : Option V} (I : Inv X pins σ H s) (g : DGet H a y o) : s.TypeIs (.ref a) "dict" := by
 rcases g with ⟨kvs,k,e,_,_⟩ | ⟨kvs,k,b,e,_,_,_⟩
 ·obtain ⟨_,_,vs,_,dd⟩ := dk_rd I.hok e
  exact dd.typeIs
 ·obtain ⟨_,_,xs,_,dd⟩ := dt_rd I.hok e
  exact dd.typeIs
def tDGet (td ty : TE) : TE := fun σ H Q => td σ H fun x H1 => ty σ H1 fun y H2 => ∃ a v,x = .ref a ∧ DGet H2 a y (some v) ∧ Q v H2
def tDNotIn (ty td : TE) : TE := fun σ H Q => ty σ H fun y H1 => td σ H1 fun x H2 => ∃ a o,x = .ref a ∧ DGet H2 a y o ∧ Q (.bl (!o.isSome)) H2
def sDPut (td ty tv : TE) : TS := fun D σ H => tv σ H fun v H1 => td σ H1 fun x H2 => ty σ H2 fun y H3 => ∃ a H4,x = .ref a ∧ DPut H3 a y v H4 ∧ D.nx σ H4
section
variable {X : Cx} {o i e value : Expr} {pos pos' tpos : Pos} {td ty tv : TE}
theorem pe_dget (hu : X.A.units + 1 < cLine) (ho : PE X o td) (hi : PE X i ty) (hs : NoSl i) : PE X (.Subscript o i pos) (tDGet td ty) := by
 intro pins s σ H Q I h
 refine subD_of PySem.F.slot_dict_getitem.lookup hs (thn (ho pins s σ H _ I h) fun u s1 ⟨x,H1,I1,rx,q1⟩ => thn (hi pins s1 σ H1 _ I1 q1) fun iv s2 ⟨y,H2,I2,ry,a,v,ex,g,q2⟩ => ?_)
 subst ex
 obtain rfl : u = Value.ref a := rx
 exact ⟨dict_typeIs I2 g,d_getItem hu I2 g ry fun w' s3 I3 rw' => ⟨v,H2,I3,rw',q2⟩⟩
theorem pc_dnotin (hu : X.A.units + 1 < cLine) (hi : PE X i ty) (ho : PE X o td) : PC X .NotIn i o (tDNotIn ty td) := by
 intro pins s σ H Q I h
 refine thn (hi pins s σ H _ I h) fun iv s1 ⟨y,H1,I1,ry,q1⟩ => thn (ho pins s1 σ H1 _ I1 q1) fun u s2 ⟨x,H2,I2,rx,a,ov,ex,g,q2⟩ => ?_
 subst ex
 obtain rfl : u = Value.ref a := rx
 exact d_notIn hu I2 g ry fun s3 I3 => ⟨.bl (!ov.isSome),H2,I3,rfl,q2⟩
theorem ps_dput (hu : X.A.units + 1 < cLine) (ho : PE X o td) (hi : PE X i ty) (hv : PE X value tv) (hs : swapsWith value (some (.Subscript o i pos')) pos.line X.env = pure false) :
  PS X (.Assign [.Subscript o i pos'] value pos) (sDPut td ty tv) := by
 intro pins s σ H D I h
 refine wpAny_Assign_Subscript (thn (hv pins s σ H _ I h) fun r s1 ⟨v,H1,I1,rv,q1⟩ => thn (ho pins s1 σ H1 _ I1 q1) fun u s2 ⟨x,H2,I2,rx,q2⟩ => thn (hi pins s2 σ H2 _ I2 q2) fun iv s3 ⟨y,H3,I3,ry,a,H4,ex,g,q3⟩ => ?_) hs
 subst ex
 obtain rfl : u = Value.ref a := rx
 exact d_setItem hu I3 g ry rv fun s4 I4 => ⟨σ,H4,I4,q3⟩
end
theorem dk_empty {P : Program} {w : World} {H : Hp} (h : Heap) (hb : sysModules < h.objs.size) : ObjOk P w H (h.push { cls := .type "dict",data := .dict #[] }) h.objs.size (.dK []) :=
 ⟨Nat.zero_le _,beq_eq_false_iff_ne.mpr (Ne.symm (Nat.ne_of_lt hb)),[],.nil,Heap.DictOf.new h⟩
def tDNewK : TE := fun _ H Q => ∀ p,H p = none → Q (.ref p) (upd H p (.dK []))
section
variable {X : Cx} {pos : Pos}
theorem pe_dnewK : PE X (.Dict [] [] pos) tDNewK := fun pins s σ H Q I h =>
 wpAny_Dict_empty ⟨.ref s.heap.objs.size,_,I.laid (a := s.heap.objs.size) (o := .dK []) (t' := s.toks) (fun _ _ q => Heap.get?_push_of_some _ q) (Nat.le_refl _) (dk_empty s.heap I.big),rfl,h _ (I.hok.fresh (Nat.le_refl _))⟩
end
section
variable {X : Cx} {pins : List (Addr × Obj)} {σ : St} {H : Hp} {s : Shared} {a : Addr} {y d : V} {u r : Value} {o : Option V} {A : Around} {E : Value → Shared → Prop}
end
section
variable {X : Cx} {o e f : Expr} {apos cpos : Pos} {td ty tx : TE}
end
section
variable {X : Cx} {pins : List (Addr × Obj)} {σ : St} {H : Hp} {s : Shared} {a : Addr} {kvs : List (Key × V)} {A : Around} {E : Value → Shared → Prop}
end
section
variable {X : Cx} {pins : List (Addr × Obj)} {σ : St} {H : Hp} {s : Shared} {a : Addr} {y : V} {u : Value} {A : Around} {E : Value → Shared → Prop}
end
end L2
namespace L2
open PySem PySem.Spec PyProof.Rows
section
variable {prog : Program} {w : World} {A : Around} {E : Value → Shared → Prop}
end
section
variable {X : Cx}
end
end L2
namespace L2
open PySem PySem.Spec PyProof.Rows
theorem boot_reversed5 : bootBuiltins "reversed" = some (.type "reversed") := by decide +kernel
section
variable {X : Cx} {pins : List (Addr × Obj)} {σ : St} {H : Hp} {s : Shared} {h' : Heap}
end
section
variable {X : Cx}
theorem pi_one {tg : Expr} {pins : List (Addr × Obj)} {σ : St} {H : Hp} {s : Shared} {R : It → Hp → Prop} {J : It} {tn : Nat → Heap → Prop} {tk : Nat} (I : Inv X pins σ H s) (o : Obj)
  (T : Turn X.prog X.w X.K tg J [s.heap.objs.size] s.heap.objs.size tn) (st : tn 0 (s.heap.push o)) (q : R J H) : PIE X pins σ tg R (.ref s.heap.objs.size) { s with heap := s.heap.push o,toks := tk } := by
 refine ⟨s.heap.objs.size,[s.heap.objs.size],tn,J,H,rfl,I.kept fun b ob e => Heap.get?_push_of_some _ e,T,st,fun b hb => ?_,q⟩
 have e : b = s.heap.objs.size := by simpa using hb
 subst e
 exact I.fpOk (Nat.le_refl _) (I.hok.fresh (Nat.le_refl _))
end
section
variable {X : Cx} {tg : Expr}
end
def Itv (K : PySem.W.Frag) (a : Addr) (n : Nat) : It :=
 ⟨fun i H => i < n ∧ ∃ (xs : List V) (x : V),SqL K H a xs ∧ xs[n - 1 - i]? = some x,fun i H x H' => H' = H ∧ ∀ xs,SqL K H a xs → xs[n - 1 - i]? = some x,fun i _ => n ≤ i⟩
theorem turn_rev {P : Program} {w : World} {K : PySem.W.Frag} {tg : Expr} (a it : Addr) (n : Nat) : Turn P w K tg (Itv K a n) [it] it (fun i h => i ≤ n ∧ h.IsRevIter it a ((n : Int) - 1 - (i : Nat))) where
 mem := by simp
 obj := fun i h st b hb => by
  have e : b = it := by simpa using hb
  subst e
  obtain ⟨_,o,e,c,d⟩ := st
  exact ⟨o,e,fun v z => by rw [d] at z; cases z⟩
 keep := fun i h h' st k => ⟨st.1,st.2.at fun o e => k it (by simp) o e⟩
 item := by
  intro X hP hw hK hc i pins s σ H E I hf st hg
  subst hP hw hK
  obtain ⟨hin,xs,x,hq,hx⟩ := hg
  obtain ⟨its,rv,p,hz⟩ := I.list hq
  obtain ⟨u,hu,ru⟩ := rv.get hx
  obtain ⟨f0,f1,f2,f3,f4,f5⟩ := hf it (by simp)
  obtain ⟨_,hit⟩ := st
  have e1 : (n : Int) - 1 - ((i : Nat) : Int) = ((n - 1 - i : Nat) : Int) := by omega
  rw [e1] at hit
  refine wpAny_pyNext_rev_item hit p.isList (x := u) (by simpa using hu) fun h' st' sb => ?_
  have e2 : ((n - 1 - i : Nat) : Int) - 1 = (n : Int) - 1 - ((i + 1 : Nat) : Int) := by omega
  rw [e2] at st'
  have I1 : Inv X pins σ H { s with heap := h' } := I.turned (t' := s.toks) (fun b o hb e => (sb.2 b hb).trans e) f0 f1 f3 f4 f5
  obtain ⟨o,e,c,d⟩ := id st'
  exact ⟨u,rfl,go_of (s := { s with heap := h' }) e c d (by decide) ⟨x,H,I1,ru,⟨rfl,fun ys hy => by rw [I.list_inj hy hq]; exact hx⟩,⟨hin,st'⟩,fun b hb => (hf b hb).1⟩⟩
 done := by
  intro X hP hw hK hc i pins s σ H E I hf st hg
  subst hP hw hK
  obtain ⟨f0,f1,f2,f3,f4,f5⟩ := hf it (by simp)
  obtain ⟨hin,hit⟩ := st
  have hge : n ≤ i := hg
  have e1 : (n : Int) - 1 - ((i : Nat) : Int) = -1 := by omega
  rw [e1] at hit
  exact wpAny_pyNext_rev_end (I.ok.hd hc) hit fun h' eb => ⟨rfl,I.turned (t' := s.toks) (fun b o hb e => eb b o hb e) f0 f1 f3 f4 f5⟩
 self := fun A i s Q E st h => wpAny_pyIter_revIter st.2 h
def iRev (K : PySem.W.Frag) (ta : TA) : TI := fun σ H R => ta σ H fun vs H1 => ∃ (a : Addr) (xs : List V),vs = [.ref a] ∧ SqL K H1 a xs ∧ R (Itv K a xs.length) H1
section
variable {X : Cx} {tg : Expr}
theorem pi_reversed {e : Expr} {ta : TA} {p pos : Pos} (hg : Gl X "reversed") (hm : X.mg "reversed" = none) (ha : PA X [e] ta) (hs : starEach [e] X.env = [(false,eval e X.env)] := by rfl) : PI X tg (.Call (.Name "reversed" p) [e] [] pos) (iRev X.K ta) := by
 intro pins s σ H R I h
 refine Call_ (ld_blt I hg hm boot_reversed5 (PyProof.Rows.callWith_type1 (thn (ha pos pins s σ H _ I h) fun us s1 ⟨vs,H1,I1,r1,q1⟩ => ?_) hs rfl))
 obtain ⟨a,xs,e,hq,q⟩ := q1
 subst e
 cases r1 with
 | cons r rr =>
  cases rr
  cases r
  obtain ⟨its,rv,p',hz⟩ := I1.list hq
  have hl := rv.length
  have e1 : ((its.toArray.size : Nat) : Int) - 1 = (xs.length : Int) - 1 - ((0 : Nat) : Int) := by simp only [List.size_toArray]; omega
  refine call_reversed_list p'.isList (wpAny_pyIter_revIter (l := a) (i := ((its.toArray.size : Nat) : Int) - 1) ⟨_,Heap.get?_push_size _ rfl,rfl,rfl⟩ ?_)
  refine pi_one (tk := s1.toks) I1 _ (turn_rev a _ xs.length) ⟨Nat.zero_le _,?_⟩ q
  rw [← e1]
  exact ⟨_,Heap.get?_push_size _ rfl,rfl,rfl⟩
end
section
variable {prog : Program} {w : World} {A : Around} {E : Value → Shared → Prop} {s : Shared}
end
section
variable {X : Cx} {pins : List (Addr × Obj)} {σ : St} {H : Hp} {s : Shared} {d : Addr} {o : Obj}
end
section
variable {P : Program} {w : World} {K : PySem.W.Frag} {tg : Expr} {d : Addr} {o : Obj} {es : Array DictEntry} {ep : Nat}
end
section
variable {X : Cx} {tg e : Expr} {td : TE} {apos cpos : Pos}
end
end L2
section
namespace Bits
open PySem PyProof.Rows
end Bits
end
section
namespace TL
open PySem PySem.Builtin PySem.Builtin.Str PySem.StrLaws
end TL
end
namespace L2
open PySem PySem.Spec PyProof.Rows
section
variable {X : Cx} {pins : List (Addr × Obj)} {σ : St} {H : Hp} {s : Shared} {Q : VK}
end
section
variable {X : Cx}
end
section
variable {X : Cx} {o e : Expr} {to te : TE}
end
end L2
namespace L2
open PySem PySem.Spec PyProof.Rows
section
variable {X : Cx}
end
end L2
namespace Att
open PySem PySem.W PySem.Calls PyProof.Rows
theorem ints_of_wellAll {P : Params} {h : Heap} : ∀ (ns : List Int) (vs : List Value),WellAll P h vs (ns.map WData.int) → IntsAre vs ns := by
 intro ns
 induction ns with
 | nil =>
  intro vs w
  rw [List.map_nil] at w
  cases w
  exact .nil
 | cons n ns ih =>
  intro vs w
  rw [List.map_cons] at w
  cases w with
  | cons a b =>
   cases a
   exact .cons _ _ (ih _ b)
section
variable {prog : Program} {w : World} {A : Around} {E : Value → Shared → Prop} {s : Shared} {K : Frag}
end
end Att
namespace L2
open PySem PySem.Spec PyProof.Rows
theorem vals_ints : ∀ {vs : List Value} {ns : List Int},IntsAre vs ns → Vals (ns.map V.int) vs
 | _,_,.nil => .nil
 | _,_,.cons n t h => .cons ⟨t,rfl⟩ (vals_ints h)
end L2
namespace L2
open PySem PySem.Spec PyProof.Rows
end L2
namespace L2
open PySem PySem.Spec PyProof.Rows
def inClass (s : Stmt) (j : Nat) : Stmt := match s with
 | .ClassDef _ _ _ body _ _ _ _ _ _ _ => body.getD j (.Pass ⟨0,0,0,0⟩)
 | _ => .Pass ⟨0,0,0,0⟩
def defArgs (s : Stmt) : Arguments := match s with
 | .FunctionDef _ a _ _ _ _ _ _ _ _ => a
 | _ => { posonlyargs := [],args := [],vararg := none,kwonlyargs := [],kw_defaults := [],kwarg := none,defaults := [] }
def defBody (s : Stmt) : List Stmt := match s with
 | .FunctionDef _ _ b _ _ _ _ _ _ _ => b
 | _ => []
def defScope (s : Stmt) : Scope := match s with
 | .FunctionDef _ _ _ _ _ _ sc _ _ _ => sc
 | _ => { kind := .function,names := [],isGenerator := false,isCoroutine := false }
abbrev CX0 : CXT := fun _ _ _ _ _ _ => False
abbrev E0 : XK := fun _ _ _ => False
theorem pass0 {X : Cx} : Passes CX0 X E0 := fun _ _ _ _ _ _ _ h => h.elim
structure Fun (K : PySem.W.Frag) (x qual : Str) (st : Stmt) (f : Addr) (fd : FuncData) : Prop where
 ex : ∃ (oc : Value) (od : Option Addr) (kV doc pm : Value) (an : Option Addr) (cdv ct : Value) (osl : Array (Option Value)),
  fd = PySem.W.fnOf x qual (defArgs st) (defBody st) (defScope st) .none kV doc pm an cdv ct ∧ K.lookup f = some ⟨oc,od,.func fd,osl⟩ ∧ PySem.W.codeIn K cdv qual = true
 kp : PySem.W.keepIn K (.ref f) = true
section
variable {P : Program} {w : World} {K : PySem.W.Frag} {mg : Str → Option Value} {base : Heap}
theorem Fun.ok {x qual : Str} {st : Stmt} {f : Addr} {fd : FuncData} {N ps : List Str} {k : Nat} {sp : Sp} (F : Fun K x qual st f fd) (S : FnScope N ps (defScope st)) (len : ∀ vs H Q E,sp vs H Q E → vs.length = ps.length)
  (hbody : ∀ (cdv : Value) (A : Around) (outer : List Env) (s : Shared) (H : Hp) (vs : List V) (Q : VK) (E : XK),Room k (A.deeper (envOfC qual (defScope st) s.heap.objs.size f cdv)) → sp vs H Q E →
   ∃ t,PSs (cxOf CX0 P w K mg base N qual (defScope st) f cdv A outer s H E).nox (defBody st) t ∧ t { nx := fun _ H' => Q .non H',rt := Q } (start N vs) H) : FnOk P w K mg base CX0 (k + 1) f fd ps sp := by
 obtain ⟨oc,od,kV,doc,pm,an,cdv,ct,osl,rfl,lk,hcd⟩ := F.ex
 refine fn_of lk hcd S len fun A outer s H vs Q E hr hsp => ?_
 obtain ⟨t,h,q⟩ := hbody cdv A outer s H vs Q E hr hsp
 exact ⟨t,h.nox,q⟩
theorem Fun.binds {x qual : Str} {st : Stmt} {f : Addr} {fd : FuncData} {ps : List Str} (F : Fun K x qual st f fd)
  (h : ∀ (kV doc pm : Value) (an : Option Addr) (cdv ct : Value) (us : List Value),us.length = ps.length → bindArgs (PySem.W.fnOf x qual (defArgs st) (defBody st) (defScope st) .none kV doc pm an cdv ct) ⟨us,[]⟩ = pure (ps.zip us)) : Binds K fd ps [] := by
 obtain ⟨oc,od,kV,doc,pm,an,cdv,ct,osl,rfl,lk,hcd⟩ := F.ex
 exact .all (h kV doc pm an cdv ct)
theorem fun_mk {x qual : Str} {st : Stmt} {f : Addr} {oc : Value} {od an : Option Addr} {osl : Array (Option Value)} {kV doc pm cdv ct : Value} (l : K.lookup f = some ⟨oc,od,.func (PySem.W.fnOf x qual (defArgs st) (defBody st) (defScope st) .none kV doc pm an cdv ct),osl⟩)
  (c : PySem.W.codeIn K cdv qual = true) (k : PySem.W.keepIn K (.ref f) = true) : Fun K x qual st f (PySem.W.fnOf x qual (defArgs st) (defBody st) (defScope st) .none kV doc pm an cdv ct) := ⟨⟨oc,od,kV,doc,pm,an,cdv,ct,osl,rfl,l,c⟩,k⟩
end
section
variable {X : Cx}
theorem pv (i : Nat) {x : Str} {pos : Pos} (hN : X.N[i]? = some x := by rfl) (hv : Vis X.env.scope x := by first | exact Or.inl rfl | exact Or.inr (Or.inl rfl) | exact Or.inr (Or.inr rfl)) (hd : (x == ("__debug__" : Str)) = false := by decide)
  (hcd : (x == ("__classdict__" : Str)) = false := by decide) : PE X (.Name x pos) (tVar i) := pe_var hN hv hd hcd
end
theorem iteF {A B : Prop} (h : B) : if false = true then A else B := by
 rw [if_neg Bool.false_ne_true]
 exact h
theorem iteT {A B : Prop} (h : A) : if true = true then A else B := by
 rw [if_pos rfl]
 exact h
theorem ite2 {c A B : Prop} [Decidable c] (h1 : c → A) (h2 : ¬ c → B) : if c then A else B := by
 by_cases h : c
 ·rw [if_pos h]
  exact h1 h
 ·rw [if_neg h]
  exact h2 h
def Same (H H' : Hp) : Prop := ∀ b o,H b = some o → H' b = some o
theorem Same.refl (H : Hp) : Same H H := fun _ _ h => h
theorem Same.trans {H H1 H2 : Hp} (a : Same H H1) (b : Same H1 H2) : Same H H2 := fun c o h => b c o (a c o h)
theorem Same.free {H H' : Hp} (e : Same H H') {l : Addr} (h : H' l = Option.none) : H l = Option.none := by
 cases q : H l with
 | none => rfl
 | some o =>
  rw [e l o q] at h
  cases h
theorem Same.seq {K : PySem.W.Frag} {H H' : Hp} {a : Addr} {xs : List V} (e : Same H H') (h : SqL K H a xs) : SqL K H' a xs := by
 rcases h with (h | ⟨o,h⟩) | h
 ·exact .inl (.inl (e _ _ h))
 ·exact .inl (.inr ⟨o,e _ _ h⟩)
 ·exact .inr h
section
variable {κ : Type} [DecidableEq κ]
end
end L2
namespace R
open PySem L2
def top (i : Nat) : Stmt := PySem.Challenge.pw_linewords_s06_answers.main.body.getD i (.Pass ⟨0,0,0,0⟩)
abbrev nAri : Str := "OPERATIONS"
abbrev sInit : Stmt := inClass (top 9) 0
abbrev sOper : Stmt := top 10
abbrev sAt : Stmt := top 11
abbrev sCallInit : Stmt := inClass (top 23) 0
abbrev sTellS : Stmt := top 24
abbrev sInRange : Stmt := top 28
abbrev sPlus : Stmt := top 29
abbrev sMinus : Stmt := top 30
abbrev sTimes : Stmt := top 31
abbrev sQuo : Stmt := top 32
abbrev sRem : Stmt := top 33
abbrev sLess : Stmt := top 34
abbrev sEqual : Stmt := top 35
abbrev sInv : Stmt := top 36
abbrev sOpStd : Stmt := top 38
abbrev sOpRes : Stmt := top 39
abbrev sSHalt : Stmt := top 43
abbrev sSNone : Stmt := top 44
abbrev sSRoom : Stmt := top 45
abbrev sSOne : Stmt := top 46
abbrev sHasOwn : Stmt := top 47
abbrev sSLoadl : Stmt := top 48
abbrev sSStorel : Stmt := top 49
abbrev sSOp : Stmt := top 50
abbrev sSCall : Stmt := top 51
abbrev sSRet : Stmt := top 52
abbrev sSGet : Stmt := top 53
abbrev sDNone : Stmt := top 54
abbrev sDPush : Stmt := top 55
abbrev sDLoad : Stmt := top 56
abbrev sDStore : Stmt := top 57
abbrev sDLoadl : Stmt := top 58
abbrev sDStorel : Stmt := top 59
abbrev sDOp : Stmt := top 60
abbrev sDNot : Stmt := top 61
abbrev sDJmp : Stmt := top 62
abbrev sDJz : Stmt := top 63
abbrev sDCall : Stmt := top 64
abbrev sDRet : Stmt := top 65
abbrev sDPut : Stmt := top 66
abbrev sDGet : Stmt := top 67
abbrev sDLine : Stmt := top 68
abbrev sMInit : Stmt := inClass (top 71) 0
abbrev sMHere : Stmt := inClass (top 71) 1
abbrev sMStd : Stmt := inClass (top 71) 2
abbrev sMTold : Stmt := inClass (top 71) 3
abbrev sMGo : Stmt := inClass (top 71) 4
abbrev sKInit : Stmt := inClass (top 78) 0
abbrev sKLoad : Stmt := inClass (top 78) 1
abbrev sKGive : Stmt := inClass (top 78) 2
abbrev sKGo : Stmt := inClass (top 78) 3
abbrev sKState : Stmt := inClass (top 78) 4
abbrev sCLen : Stmt := top 79
abbrev sAnsOf : Stmt := top 80
abbrev sAns : Stmt := top 81
end R
namespace Ar
open Ls
def quoP (a b : Int) : Int := if decide (a < 0) = decide (b < 0) then ((a.natAbs / b.natAbs : Nat) : Int) else -((a.natAbs / b.natAbs : Nat) : Int)
def remP (a b : Int) : Int := if a < 0 then -((a.natAbs % b.natAbs : Nat) : Int) else ((a.natAbs % b.natAbs : Nat) : Int)
theorem quo_eq (a b : Int) : quoP a b = Int.tdiv a b := by
 unfold quoP
 cases a with
 | ofNat m =>
  cases b with
  | ofNat n =>
   rw [decide_eq_false (show ¬ (Int.ofNat m < 0) by simp),decide_eq_false (show ¬ (Int.ofNat n < 0) by simp),if_pos rfl]
   rfl
  | negSucc n =>
   rw [decide_eq_false (show ¬ (Int.ofNat m < 0) by simp),decide_eq_true (Int.negSucc_lt_zero n),if_neg (by decide)]
   rfl
 | negSucc m =>
  cases b with
  | ofNat n =>
   rw [decide_eq_true (Int.negSucc_lt_zero m),decide_eq_false (show ¬ (Int.ofNat n < 0) by simp),if_neg (by decide)]
   rfl
  | negSucc n =>
   rw [decide_eq_true (Int.negSucc_lt_zero m),decide_eq_true (Int.negSucc_lt_zero n),if_pos rfl]
   rfl
theorem rem_eq (a b : Int) : remP a b = Int.tmod a b := by
 unfold remP
 cases a with
 | ofNat m =>
  rw [if_neg (show ¬ (Int.ofNat m < 0) by simp)]
  cases b <;> rfl
 | negSucc m =>
  rw [if_pos (Int.negSucc_lt_zero m)]
  cases b <;> rfl
def resP (o : Nat) (a b : Int) : Int := match o with
 | 0 => a + b
 | 1 => a - b
 | 2 => a * b
 | 3 => quoP a b
 | 4 => remP a b
 | 5 => if a < b then 1 else 0
 | _ => if a = b then 1 else 0
def stdP (o : Nat) (a b : Int) : Nat := if (o = 3 ∨ o = 4) ∧ b = 0 then 2 else if inRange (resP o a b) = true then 7 else 1
theorem arith_eq {o : Nat} (ho : o ≤ 6) {a b : Int} (ha : inRange a = true) (hb : inRange b = true) : arith o a b = if stdP o a b = 7 then .ok (resP o a b) else .error (stdP o a b) := by
 have fits : ∀ z : Int,(if inRange z = true then Except.ok z else .error 1 : Except Nat Int) = if (if inRange z = true then 7 else 1) = 7 then .ok z else .error (if inRange z = true then 7 else 1) := fun z => by
  cases inRange z <;> rfl
 unfold arith stdP
 match o,ho with
 | 0,_ => simp only [resP]; exact fits _
 | 1,_ => simp only [resP]; exact fits _
 | 2,_ => simp only [resP]; exact fits _
 | 3,_ =>
  by_cases c : b = 0
  ·simp [c]
  ·simp only [resP,quo_eq,c]; simpa using fits _
 | 4,_ =>
  by_cases c : b = 0
  ·simp [c]
  ·have hr : inRange (Int.tmod a b) = true := by
    unfold inRange at ha ⊢
    simp only [Bool.and_eq_true,decide_eq_true_eq] at ha ⊢
    have h1 : (Int.tmod a b).natAbs ≤ a.natAbs := by rw [Int.natAbs_tmod]; exact Nat.mod_le _ _
    by_cases s : 0 ≤ a
    ·have := Int.tmod_nonneg b s
     omega
    ·have h2 : Int.tmod a b ≤ 0 := by
      rw [← rem_eq]
      unfold remP
      rw [if_pos (by omega)]
      omega
     omega
   simp [resP,rem_eq,c,hr]
 | 5,_ =>
  have : inRange (if a < b then 1 else 0) = true := by by_cases c : a < b <;> simp [c] <;> decide
  simp [resP,this]
 | 6,_ =>
  have : inRange (if a = b then 1 else 0) = true := by by_cases c : a = b <;> simp [c] <;> decide
  simp [resP,this]
end Ar
namespace L2
open PySem PySem.Spec PyProof.Rows
section
variable {X : Cx}
def rSumT (K : PySem.W.Frag) : List V → Hp → VK → Prop := fun vs H Q => ∃ (a : Addr) (ns : List Int),vs = [V.ref a] ∧ SqT K H a (ns.map V.int) ∧ Q (.int ns.sum) H
theorem cr_sumT (hc : X.calm = true) : CallR X (.builtin "sum") (rSumT X.K) := by
 intro pins s σ H vs us Q I r h
 obtain ⟨a,ns,rfl,hs,q⟩ := h
 obtain ⟨its,rv,hl,_⟩ := I.tuple hs
 rw [Vals.ref1 r]
 have hi := rv.ints
 obtain ⟨xs,e⟩ := hi.allInts.items
 have hn : numsOf (intItems xs).toList = ns := by rw [← e]; exact hi.numsOf
 rw [nums_intItems] at hn
 have hl' : s.heap.IsTuple a (intItems xs) := by
  rw [← e]
  obtain ⟨o,h1,h2,n,h3⟩ := hl
  exact ⟨o,h1,h2,n,h3⟩
 refine PySem.W.ktm_sumG (I.ok.hd hc) hl' fun h' tk t' hk => ?_
 rw [preSum_eq,List.take_of_length_le (by simp),hn]
 exact ⟨.int _,H,I.kept hk,⟨_,rfl⟩,q⟩
end
theorem for_rev {K : PySem.W.Frag} {a : Addr} {xs : List V} {g : TG} {tb : TS} {D : Ends} {σ : St} {H : Hp} (Pv : Nat → St → Hp → Prop) (h0 : Pv 0 σ H) (hl : ∀ i σ H,i ≤ xs.length → Pv i σ H → SqL K H a xs)
  (hs : ∀ i x σ H,xs.reverse[i]? = some x → Pv i σ H → g x σ H fun σ2 H2 => tb { D with nx := Pv (i + 1),ct := Pv (i + 1),bk := D.nx } σ2 H2) (hd : ∀ σ H,Pv xs.length σ H → D.nx σ H) :
  ∃ W : Nat → Nat → St → Hp → Prop,(∃ m,W 0 m σ H) ∧ ∀ i m σ H,W i m σ H →
   ((Itv K a xs.length).stop i H ∧ D.nx σ H) ∨ ((Itv K a xs.length).go i H ∧ ∃ N : St → Hp → Prop,(∀ σ' H',N σ' H' → ∃ m',m' < m ∧ W (i + 1) m' σ' H') ∧ ∀ x H',(Itv K a xs.length).yld i H x H' → g x σ H' fun σ2 H2 => tb { D with nx := N,ct := N,bk := D.nx } σ2 H2) := by
 refine ⟨fun i m σ H => m = xs.length - i ∧ i ≤ xs.length ∧ Pv i σ H,⟨xs.length,by simp,Nat.zero_le _,h0⟩,?_⟩
 rintro i m σ H ⟨rfl,hi,p⟩
 have q := hl i σ H hi p
 by_cases hlt : i < xs.length
 ·have e0 : xs[xs.length - 1 - i]? = some xs[xs.length - 1 - i] := List.getElem?_eq_getElem (by omega)
  refine .inr ⟨⟨hlt,xs,_,q,e0⟩,Pv (i + 1),fun σ' H' p' => ⟨xs.length - (i + 1),by omega,rfl,hlt,p'⟩,fun x H' y => ?_⟩
  obtain ⟨e,y⟩ := y
  subst e
  refine hs i x σ _ ?_ p
  rw [List.getElem?_reverse hlt]
  exact y xs q
 ·have e : i = xs.length := by omega
  subst e
  exact .inl ⟨Nat.le_refl _,hd σ H p⟩
theorem Same.upd' {H H' : Hp} {a : Addr} {o : HO} (s : Same H H') (h : H a = none) : Same H (upd H' a o) := fun b u e => by
 rw [upd_ne (ne_of_none e h)]; exact s b u e
theorem cut_from' (xs : List V) (k : Nat) : cutV xs (some (k : Int)) none = xs.drop k := by
 unfold cutV
 rw [HT.sIx_none,HT.sIx_nat]
 by_cases h : k ≤ xs.length
 ·rw [Nat.min_eq_left h,List.take_of_length_le (by rw [List.length_drop]; omega)]
 ·rw [Nat.min_eq_right (by omega),List.drop_of_length_le (Nat.le_refl _),List.drop_of_length_le (by omega)]
  simp
theorem cut_mid' (xs : List V) (i j : Nat) : cutV xs (some (i : Int)) (some (j : Int)) = (xs.drop i).take (j - i) := by
 unfold cutV
 rw [HT.sIx_nat,HT.sIx_nat]
 by_cases hj : j ≤ xs.length
 ·rw [Nat.min_eq_left hj]
  by_cases hi : i ≤ xs.length
  ·rw [Nat.min_eq_left hi]
  ·rw [Nat.min_eq_right (by omega),List.drop_of_length_le (Nat.le_refl _),List.drop_of_length_le (by omega : xs.length ≤ i)]; simp
 ·rw [Nat.min_eq_right (by omega : xs.length ≤ j)]
  by_cases hi : i ≤ xs.length
  ·rw [Nat.min_eq_left hi,List.take_of_length_le (by rw [List.length_drop]; omega),List.take_of_length_le (by rw [List.length_drop]; omega)]
  ·rw [Nat.min_eq_right (by omega),List.drop_of_length_le (Nat.le_refl _),List.drop_of_length_le (by omega : xs.length ≤ i)]; simp
theorem decV {i j : Int} : decide (V.int i = V.int j) = decide (i = j) := by
 by_cases h : i = j
 ·subst h; simp
 ·rw [decide_eq_false h,decide_eq_false (fun e => h (V.int.inj e))]
theorem tYes_if' {σ : St} {H : Hp} {A B : Hp → Prop} (h : A H) : tYes σ H fun b H3 => if b = true then A H3 else B H3 := by
 show if true = true then A H else B H
 exact iteT h
theorem line_big' : 300000 < sizeLine := by rw [sizeLine_eq]; decide
structure Dn (K : PySem.W.Frag) (mg : Str → Option Value) (x : Str) (st : Stmt) (f : Addr) (fd : FuncData) (ps : List Str) : Prop where
 fn : Fun K x x st f fd
 at_ : mg x = some (.ref f)
 bd : Binds K fd ps []
end L2
namespace L2
open PySem PySem.Spec PyProof.Rows
section
variable {X : Cx} {func e : Expr} {es : List Expr} {tf : TE} {t : TA} {pos : Pos}
def tCallV (X : Cx) (tf : TE) (t : TA) : TE := fun σ H Q => tf σ H fun x H1 => ∃ (f : Addr) (fd : FuncData) (ps : List Str) (sp : Sp) (k : Nat) (CX : CXT) (E : XK),x = .ref f ∧ FnOk X.prog X.w X.K X.mg X.base CX k f fd ps sp ∧ Room k X.A ∧ PySem.W.keepIn X.K (.ref f) = true ∧ Binds X.K fd ps [] ∧ Passes CX X E ∧
 t σ H1 fun vs H2 => sp (vs ++ []) H2 Q E
theorem pe_callV (hf : PE X func tf) (ha : PA X (e :: es) t)
  (h0 : eval (.Call func (e :: es) [] pos) X.env = (do callWith pos (← eval func X.env) [] (backTo pos (starEach (e :: es) X.env)) (backToKw pos (keywordEach [] X.env))) := by rfl)
  (he : starEach (e :: es) X.env = (false,eval e X.env) :: starEach es X.env := by rfl) (hpl : (backTo pos (starEach es X.env)).any (·.1) = false := by rfl) :
  PE X (.Call func (e :: es) [] pos) (tCallV X tf t) := by
 intro pins s σ H Q I h
 refine Call_ (thn (hf pins s σ H _ I h) fun u s1 ⟨x,H1,I1,rx,f,fd,ps,sp,k,CX,E,ex,F,hr,hk,hb,hx,q⟩ => ?_) h0
 subst ex
 obtain rfl : u = Value.ref f := rx
 refine PySem.W.callWith_K (h₀ := X.base) I1.ok.mod.kin hk (thn (ha pos pins s1 σ H1 _ I1 q) fun us s2 ⟨vs,H2,I2,r,q2⟩ => ⟨I2.kIn,?_⟩) he hpl
 exact run_fn F hr hb .nil hx I2 r q2
end
end L2
namespace L2
open PySem PySem.Spec PyProof.Rows
inductive Arg where
 | int (z : Int)
 | ints (ns : List Int)
def Arg.w : Arg → PySem.W.WData
 | .int z => .int z
 | .ints ns => .list (ns.map .int)
def ArgAt (h : Heap) : Arg → Value → Prop
 | .int z,u => ∃ t,u = .int z t
 | .ints ns,u => ∃ (a : Addr) (vs : List Value),u = .ref a ∧ h.get? a = some { cls := .type "list",data := .seq vs.toArray } ∧ IntsAre vs ns
def ArgV (K : PySem.W.Frag) (H : Hp) : Arg → V → Prop
 | .int z,v => v = .int z
 | .ints ns,v => ∃ a,v = .ref a ∧ SqL K H a (ns.map V.int)
theorem args_of_well {P : PySem.Params} {h : Heap} : ∀ {args : List Arg} {vals : List Value},PySem.W.WellAll P h vals (args.map Arg.w) → Paired (ArgAt h) args vals
 | [],vals,w => by
  rw [List.map_nil] at w
  cases w
  exact .nil
 | .int z :: r,vals,w => by
  rw [List.map_cons] at w
  cases w with
  | cons a b =>
   cases a
   exact .cons ⟨_,rfl⟩ (args_of_well b)
 | .ints ns :: r,vals,w => by
  rw [List.map_cons] at w
  cases w with
  | cons a b =>
   cases a with
   | list ho hall => exact .cons ⟨_,_,rfl,ho,Att.ints_of_wellAll ns _ hall⟩ (args_of_well b)
def absI : Value → V
 | .int i _ => .int i
 | _ => .non
def absL (o : Obj) : List V := match o.data with
 | .seq its _ => its.toList.map absI
 | _ => []
theorem absI_of {vs : List Value} {ns : List Int} (h : IntsAre vs ns) : vs.map absI = ns.map V.int := by
 induction h with
 | nil => rfl
 | cons n t h ih => rw [List.map_cons,List.map_cons,ih]; rfl
def refOf : Value → Option Addr
 | .ref a => some a
 | _ => none
def refsOf (vals : List Value) : List Addr := vals.filterMap refOf
def HA (K : PySem.W.Frag) (h : Heap) (vals : List Value) : Hp := fun b => if b ∈ refsOf vals ∧ (K.lookup b).isNone = true then (h.get? b).map fun o => .frz o (.lst (absL o)) else none
section
variable {K : PySem.W.Frag} {h : Heap} {vals : List Value}
theorem HA_some {b : Addr} {u : HO} (e : HA K h vals b = some u) : ∃ o,h.get? b = some o ∧ u = .frz o (.lst (absL o)) ∧ b ∈ refsOf vals ∧ K.lookup b = none := by
 unfold HA at e
 by_cases c : b ∈ refsOf vals ∧ (K.lookup b).isNone = true
 ·rw [if_pos c] at e
  obtain ⟨o,ho,hu⟩ := Option.map_eq_some_iff.mp e
  exact ⟨o,ho,hu.symm,c.1,Option.isNone_iff_eq_none.mp c.2⟩
 ·rw [if_neg c] at e; cases e
theorem HA_at {b : Addr} {o : Obj} (m : b ∈ refsOf vals) (k : K.lookup b = none) (e : h.get? b = some o) : HA K h vals b = some (.frz o (.lst (absL o))) := by
 unfold HA
 rw [if_pos ⟨m,by rw [k]; rfl⟩,e]; rfl
theorem refs_list : ∀ {args : List Arg} {vals : List Value},Paired (ArgAt h) args vals → ∀ b ∈ refsOf vals,∃ vs ns,h.get? b = some { cls := .type "list",data := .seq vs.toArray } ∧ IntsAre vs ns ∧ Arg.ints ns ∈ args
 | _,_,.nil,b,hb => by simp [refsOf] at hb
 | .int z :: r,_ :: l2,.cons ⟨t,e⟩ p,b,hb => by
  subst e
  have hb' : b ∈ refsOf l2 := by
   unfold refsOf at hb
   rw [List.filterMap_cons] at hb
   exact hb
  obtain ⟨vs,ns,h1,h2,h3⟩ := refs_list p b hb'
  exact ⟨vs,ns,h1,h2,List.mem_cons_of_mem _ h3⟩
 | .ints ns :: r,_ :: l2,.cons ⟨a,vs,e,ho,hi⟩ p,b,hb => by
  subst e
  unfold refsOf at hb
  rw [List.filterMap_cons] at hb
  rcases List.mem_cons.mp (show b ∈ a :: refsOf l2 from hb) with q | q
  ·subst q
   exact ⟨vs,ns,ho,hi,List.mem_cons_self ..⟩
  ·obtain ⟨vs,ns,h1,h2,h3⟩ := refs_list p b q
   exact ⟨vs,ns,h1,h2,List.mem_cons_of_mem _ h3⟩
theorem args_vals (KX : K.In h) {vals0 : List Value} : ∀ {args : List Arg} {vals : List Value},Paired (ArgAt h) args vals → (∀ ns,Arg.ints ns ∈ args → ns.length ≤ sizeLine) → (∀ b ∈ refsOf vals,b ∈ refsOf vals0) →
  ∃ vs : List V,Paired (ArgV K (HA K h vals0)) args vs ∧ Vals vs vals
 | _,_,.nil,_,_ => ⟨[],.nil,.nil⟩
 | .int z :: r,_,.cons ⟨t,e⟩ p,hl,hb => by
  subst e
  obtain ⟨vs,h1,h2⟩ := args_vals KX p (fun ns m => hl ns (List.mem_cons_of_mem _ m)) (fun b m => hb b (by unfold refsOf; rw [List.filterMap_cons]; exact m))
  exact ⟨.int z :: vs,.cons rfl h1,.cons ⟨t,rfl⟩ h2⟩
 | .ints ns :: r,_,.cons ⟨a,us,e,ho,hi⟩ p,hl,hb => by
  subst e
  obtain ⟨vs,h1,h2⟩ := args_vals KX p (fun ns m => hl ns (List.mem_cons_of_mem _ m)) (fun b m => hb b (by unfold refsOf; rw [List.filterMap_cons]; exact List.mem_cons_of_mem _ m))
  refine ⟨.ref a :: vs,.cons ⟨a,rfl,?_⟩ h1,.cons rfl h2⟩
  have rv := vals_ints hi
  have lz := hl ns (List.mem_cons_self ..)
  cases hk : K.lookup a with
  | some o =>
   have e := KX a o hk
   rw [ho] at e
   cases e
   exact .inr ⟨_,us.toArray,_,hk,rfl,rfl,rfl,by rw [List.size_toArray,hi.length]; exact lz,by simpa using rv⟩
  | none =>
   have q := HA_at (vals := vals0) (hb a (by unfold refsOf; rw [List.filterMap_cons]; exact List.mem_cons_self ..)) hk ho
   have q2 : absL { cls := .type "list",data := .seq us.toArray } = ns.map V.int := absI_of hi
   rw [q2] at q
   exact .inl (.inr ⟨_,q⟩)
end
theorem reads_ints {R : PySem.W.WRecords} {cl : Str → Option Addr} {h : Heap} : ∀ {ns : List Int} {us : List Value},Vals (ns.map V.int) us → PySem.W.ReadsAllW R cl h us (ns.map PySem.W.WData.int) []
 | [],us,r => by
  cases r
  exact .nil
 | n :: ns,us,r => by
  cases r with
  | cons a b =>
   obtain ⟨t,rfl⟩ := a
   exact .cons (as := []) (bs := []) (.int n t) (reads_ints b)
theorem spec_call {P : Program} {w : World} {K : PySem.W.Frag} {mg mb : Str → Option Value} {k : Nat} {fa : Addr} {fd : FuncData} {ps : List Str} {sp : Sp} {s₁ : Shared} {vals : List Value} {args : List Arg} {ans : List Int}
  (KX : K.In s₁.heap) (hns : s₁.heap.Ns mainGlobals mg) (hb : s₁.heap.Ns builtinsNs mb) (hbb : ∀ x : Str,x ≠ "__name__" → mb x = bootBuiltins x) (hlim : s₁.heap.NoLimit) (hg : s₁.gens = #[])
  (hargs : Paired (ArgAt s₁.heap) args vals) (hl : ∀ ns,Arg.ints ns ∈ args → ns.length ≤ sizeLine) (hr : Room k callerA)
  (F : ∀ base : Heap,K.In base → base.Ns mainGlobals mg → FnOk P w K mg base CX0 k fa fd ps sp) (hbind : BindsTo s₁ fd ⟨vals,[]⟩ (ps.zip vals))
  (hsp : ∀ (H : Hp) (vs : List V),Paired (ArgV K H) args vs → sp vs H (fun v H' => ∃ p,v = .ref p ∧ SqL K H' p (ans.map V.int)) E0) :
  codeAny (model P w) callerA (.call (.ref fa) ⟨vals,[]⟩) (fun r s' => (∃ (p : Addr) (o : Obj) (its : Array Value) (n : Nat),r = .ok (.ret (.ref p)) ∧ s'.heap.get? p = some o ∧ o.cls = .type "list" ∧ o.data = .seq its n ∧ Vals (ans.map V.int) its.toList) ∧
   OldK s₁.heap s'.heap ∧ s'.os = s₁.os ∧ AllBare s'.gens) s₁ := by
 have hA : ∀ b,HA K s₁.heap vals b ≠ none → ∃ vs ns,s₁.heap.get? b = some { cls := .type "list",data := .seq vs.toArray } ∧ IntsAre vs ns ∧ Arg.ints ns ∈ args ∧ K.lookup b = none ∧ HA K s₁.heap vals b = some (.frz { cls := .type "list",data := .seq vs.toArray } (.lst (ns.map V.int))) := fun b hb => by
  cases q : HA K s₁.heap vals b with
  | none => exact absurd q hb
  | some u =>
   obtain ⟨o,ho,hu,hm,hk⟩ := HA_some q
   obtain ⟨vs,ns,h1,h2,h3⟩ := refs_list hargs b hm
   rw [h1] at ho
   cases ho
   have q2 : absL { cls := .type "list",data := .seq vs.toArray } = ns.map V.int := absI_of h2
   refine ⟨vs,ns,h1,h2,h3,hk,?_⟩
   rw [hu,q2]
 have hok : HOk P w (HA K s₁.heap vals) s₁.heap := fun b u e => by
  obtain ⟨vs,ns,h1,h2,h3,h4,h5⟩ := hA b (by rw [e]; simp)
  rw [h5] at e
  cases e
  exact ⟨h1,by rw [List.length_map]; exact hl ns h3,vs,_,vals_ints h2,h1⟩
 obtain ⟨vs,hv1,hv2⟩ := args_vals KX (vals0 := vals) hargs hl fun b m => m
 have base_of : ∀ {b : Addr} {o : Obj},s₁.heap.get? b = some o → HA K s₁.heap vals b = none → (hidT s₁.heap (HA K s₁.heap vals)).get? b = some o := fun e n => hidT_get e n
 have noA : ∀ {b : Addr} {o : Obj} {es : Array DictEntry} {ep : Nat},s₁.heap.get? b = some o → o.data = .dict es ep → HA K s₁.heap vals b = none := fun {b o es ep} e d => by
  cases q : HA K s₁.heap vals b with
  | none => rfl
  | some u =>
   obtain ⟨vs,ns,h1,_⟩ := hA b (by rw [q]; simp)
   rw [h1] at e; cases e
   have d' : Data.seq vs.toArray _ = Data.dict es ep := d
   cases d'
 have nsK : ∀ {b : Addr} {m : Str → Option Value},s₁.heap.Ns b m → (hidT s₁.heap (HA K s₁.heap vals)).Ns b m := fun {b m} ⟨o,es,ep,e,d,r⟩ => ⟨o,es,ep,base_of e (noA e d),d,r⟩
 have hKb : K.In (hidT s₁.heap (HA K s₁.heap vals)) := fun b o e => base_of (KX b o e) (by
  cases q : HA K s₁.heap vals b with
  | none => rfl
  | some u =>
   obtain ⟨_,_,_,_,_,hk,_⟩ := hA b (by rw [q]; simp)
   rw [hk] at e; cases e)
 have hM : Mod K mg (hidT s₁.heap (HA K s₁.heap vals)) := ⟨hKb,nsK hns,⟨mb,nsK hb,hbb⟩,let ⟨mc,h1,h2⟩ := hlim; ⟨mc,nsK h1,h2⟩⟩
 have e0 : Env0 P w K mg (hidT s₁.heap (HA K s₁.heap vals)) callerA [] s₁ (HA K s₁.heap vals) := ⟨rfl,hM,fun b o e => of_hidT e,Nat.le_of_eq (hidT_size _ _),trivial,fun b hb => absurd (show b ∈ ([] : List Addr) from hb) (by simp),hok,.of_eq hg⟩
 refine codeAny_mono ((F _ hKb (nsK hns)).run callerA [] s₁ (HA K s₁.heap vals) ⟨vals,[]⟩ vals vs _ _ hr e0 hbind hv2 (hsp _ vs hv1)) fun r s' h => ?_
 cases r with
 | error e => exact False.elim h
 | ok fl =>
  cases fl with
  | next => exact False.elim h
  | brk => exact False.elim h
  | cont => exact False.elim h
  | ret u =>
   obtain ⟨v,H',os,bare,un,hok',r',p,rfl,hp⟩ := h
   obtain rfl : u = Value.ref p := r'
   refine ⟨?_,OldK.of_keep fun b o e => ?_,os,bare⟩
   ·rcases hp with rd | ⟨o,its,n,h1,h2,h3,h4,h5,h6⟩
    ·obtain ⟨hz,its,n,hv,ho⟩ := rd.ok hok'
     exact ⟨p,_,its.toArray,n,rfl,ho,rfl,rfl,by simpa using hv⟩
    ·obtain ⟨b1,b2⟩ := of_hidT (hKb p o h1)
     exact ⟨p,o,its,n,rfl,un.keep p o b1 b2 (by intro z; exact absurd (show p ∈ ([] : List Addr) from z) (by simp)) (by simp),h2,h4,h6⟩
   ·cases q : HA K s₁.heap vals b with
    | none => exact un.keep b o e q (by intro z; exact absurd (show b ∈ ([] : List Addr) from z) (by simp)) (by simp)
    | some u =>
     obtain ⟨vs,ns,h1,_,_,_,h5⟩ := hA b (by rw [q]; simp)
     have z2 := un.frzs b _ _ h5
     obtain ⟨e2,_⟩ := hok' b _ z2
     rw [h1] at e; cases e
     exact e2
theorem walk_os {r : PySem.W.OpenSpec} {k : Nat} {q : Program} {loose : List Str} {XP : (Str → Option Value) → Heap → Prop} {YP : World → Heap → Prop} {d : DefRec} {K : PySem.Params → PySem.W.Frag} {sp : PySem.W.Frag → Sp}
  {args : PySem.W.Codec.denoteAll r.args → List Arg} {ans : PySem.W.Codec.denoteAll r.args → List Int}
  (said : r.wellSaid = true) (hdf : d.params.defaults = []) (hr : Room k callerA)
  (henc : ∀ a,PySem.W.Codec.encAll r.args a = (args a).map Arg.w)
  (hret : ∀ a,r.ret.enc (PySem.W.Codec.app r.args r.f a) = .list ((ans a).map .int))
  (hlen : ∀ a,PySem.W.Codec.withinAll r.args a = true → ∀ ns,Arg.ints ns ∈ args a → ns.length ≤ sizeLine)
  (hY : ∀ (w : World) (h : Heap),YP w h → (K w.params).In h)
  (F : ∀ (w : World) (mg : Str → Option Value) (fa : Addr) (h : Heap),(K w.params).In h → h.Ns mainGlobals mg → mg d.name = some (.ref fa) →
   ∃ (fd : FuncData) (ps : List Str),Binds (K w.params) fd ps [] ∧ (∀ a,(args a).length = ps.length) ∧
    ∀ base : Heap,(K w.params).In base → base.Ns mainGlobals mg → FnOk r.prog w (K w.params) mg base CX0 k fa fd ps (sp (K w.params)))
  (hsp : ∀ (K : PySem.W.Frag) (a : PySem.W.Codec.denoteAll r.args) (H : Hp) (vs : List V),PySem.W.Codec.withinAll r.args a = true → PySem.W.Codec.app r.args r.asked a = true → Paired (ArgV K H) (args a) vs →
   sp K vs H (fun v H' => ∃ p,v = .ref p ∧ SqL K H' p ((ans a).map V.int)) E0) :
  PySem.W.WalkOS q loose XP YP r d [] (fun f vs => PySem.call f vs) := by
 intro w s₀ s₁ mg mb G Y fa o pm cd doc dV kV ho hd hcd hD hmg hg args' vals as hpre hlay hrd hwl hlo
 obtain ⟨a,hw,hask,rfl⟩ := (PySem.W.OpenSpec.pre_iff said _).mp hpre
 have KX := hY w _ Y
 obtain ⟨fd,ps,hbi,hpl,hF⟩ := F w mg fa _ KX G.T.g hmg
 have hwl2 : PySem.W.WellAll w.params s₁.heap vals ((args a).map Arg.w) := by rw [← henc a]; exact hwl
 have hA := args_of_well hwl2
 have hvl : vals.length = ps.length := by rw [← hpl a]; exact (Paired.length hA).symm
 have hbd : BindsTo s₁ fd ⟨vals,[]⟩ (ps.zip vals) := by
  have := hbi s₁ vals KX (by rw [List.append_nil]; exact hvl)
  rw [List.append_nil] at this
  exact this
 refine PySem.W.enter_call (codeAny_mono (spec_call KX G.T.g G.T.b G.T.builtins G.T.nolimit hg hA (hlen a hw) hr hF hbd fun H vs hv => hsp _ a H vs hw hask hv) fun r' s' hq => ?_)
 obtain ⟨⟨p,o,its,n,rfl,h1,h2,h3,h4⟩,h5,h6,h7⟩ := hq
 refine ⟨.inl ⟨.ref p,.list ((ans a).map .int),[p],rfl,fun _ => rfl,.list h1 h2 h3 (reads_ints h4),(PySem.W.OpenSpec.post_iff said hw _ _).mpr (hret a).symm,fun z => absurd z Bool.false_ne_true⟩,h5,h6,h7⟩
end L2
namespace L2
open PySem PySem.Spec PyProof.Rows
theorem dn_mk {K : PySem.W.Frag} {h : Heap} {mg : Str → Option Value} {x : Str} {st : Stmt} {f : Addr} {ps : List Str} {oc : Value} {od an : Option Addr} {osl : Array (Option Value)} {kV doc pm cdv ct : Value} (X : K.In h) (G : h.Ns mainGlobals mg)
  (a : PySem.W.nsIn K mainGlobals x = some (some (.ref f))) (l : K.lookup f = some ⟨oc,od,.func (PySem.W.fnOf x x (defArgs st) (defBody st) (defScope st) .none kV doc pm an cdv ct),osl⟩)
  (c : PySem.W.codeIn K cdv x = true) (k : PySem.W.keepIn K (.ref f) = true)
  (hb : ∀ (kV doc pm : Value) (an : Option Addr) (cdv ct : Value) (us : List Value),us.length = ps.length → bindArgs (PySem.W.fnOf x x (defArgs st) (defBody st) (defScope st) .none kV doc pm an cdv ct) ⟨us,[]⟩ = pure (ps.zip us)) :
  Dn K mg x st f (PySem.W.fnOf x x (defArgs st) (defBody st) (defScope st) .none kV doc pm an cdv ct) ps :=
 ⟨fun_mk l c k,PySem.W.mg_of X G a,(fun_mk l c k).binds hb⟩
structure Mt (K : PySem.W.Frag) (C : Addr) (m qual : Str) (st : Stmt) (f : Addr) (fd : FuncData) (ps : List Str) : Prop where
 fn : Fun K m qual st f fd
 me : Meth K C m f
 bd : Binds K fd ps []
theorem mt_mk {K : PySem.W.Frag} {C : Addr} {m qual : Str} {st : Stmt} {f : Addr} {ps : List Str} {oc : Value} {od an : Option Addr} {osl : Array (Option Value)} {kV doc pm cdv ct : Value}
  (a : PySem.W.findIn K (.ref C) m = some (some (.ref f))) (i : PySem.W.isFn K (.ref f) = true) (l : K.lookup f = some ⟨oc,od,.func (PySem.W.fnOf m qual (defArgs st) (defBody st) (defScope st) .none kV doc pm an cdv ct),osl⟩)
  (c : PySem.W.codeIn K cdv qual = true) (k : PySem.W.keepIn K (.ref f) = true)
  (hb : ∀ (kV doc pm : Value) (an : Option Addr) (cdv ct : Value) (us : List Value),us.length = ps.length → bindArgs (PySem.W.fnOf m qual (defArgs st) (defBody st) (defScope st) .none kV doc pm an cdv ct) ⟨us,[]⟩ = pure (ps.zip us)) :
  Mt K C m qual st f (PySem.W.fnOf m qual (defArgs st) (defBody st) (defScope st) .none kV doc pm an cdv ct) ps :=
 ⟨fun_mk l c k,⟨a,i,k⟩,(fun_mk l c k).binds hb⟩
def tupAt (K : PySem.W.Frag) (a : Addr) : Option (List Value) := match K.lookup a with
 | some ⟨.type n,_,.seq its _,_⟩ => if n = "tuple" then some its.toList else none
 | _ => none
theorem tupAt_of {K : PySem.W.Frag} {a : Addr} {us : List Value} (h : tupAt K a = some us) : ∃ (o : Obj) (its : Array Value) (n : Nat),K.lookup a = some o ∧ o.cls = .type "tuple" ∧ o.data = .seq its n ∧ its.toList = us := by
 unfold tupAt at h
 split at h
 ·rename_i n od its m sl e
  by_cases c : n = "tuple"
  ·rw [if_pos c] at h
   subst c
   exact ⟨_,its,m,e,rfl,rfl,Option.some.inj h⟩
  ·rw [if_neg c] at h; cases h
 ·cases h
theorem sqT_of {K : PySem.W.Frag} {a : Addr} {us : List Value} {xs : List V} (h : tupAt K a = some us) (hl : us.length ≤ 300000) (r : Vals xs us) (H : Hp) : SqT K H a xs := by
 obtain ⟨o,its,n,h1,h2,h3,h4⟩ := tupAt_of h
 refine .inr ⟨o,its,n,h1,h2,h3,?_,by rw [h4]; exact r⟩
 have : its.size = us.length := by rw [← h4]; exact Array.length_toList.symm
 have := line_big'
 omega
theorem rel_of_abs : ∀ {u : Value} {x : V},absV u = some x → RelV x u
 | .none,x,h => by cases h; rfl
 | .bool b,x,h => by cases h; rfl
 | .int i t,x,h => by cases h; exact ⟨t,rfl⟩
 | .str i t,x,h => by cases h; exact ⟨t,rfl⟩
 | .bytes i t,x,h => by cases h; exact ⟨t,rfl⟩
 | .float i t,x,h => by cases h; exact ⟨t,rfl⟩
 | .ref a,x,h => by cases h; rfl
 | .type a,x,h => by cases h; rfl
 | .ellipsis,x,h => by cases h
 | .notImplemented,x,h => by cases h
 | .builtin _,x,h => by cases h
def absVs : List Value → Option (List V)
 | [] => some []
 | u :: us => match absV u,absVs us with
  | some x,some xs => some (x :: xs)
  | _,_ => none
theorem vals_of_abs : ∀ {us : List Value} {xs : List V},absVs us = some xs → Vals xs us
 | [],xs,h => by cases h; exact .nil
 | u :: us,xs,h => by
  unfold absVs at h
  split at h
  ·rename_i x ys e1 e2
   cases h
   exact .cons (rel_of_abs e1) (vals_of_abs e2)
  ·cases h
def tabAt (K : PySem.W.Frag) (a : Addr) : Option (List V) := match tupAt K a with
 | some us => absVs us
 | none => none
theorem tab_sq {K : PySem.W.Frag} {a : Addr} {xs : List V} (h : tabAt K a = some xs) (hl : xs.length ≤ 300000) (H : Hp) : SqT K H a xs := by
 unfold tabAt at h
 split at h
 ·rename_i us e
  have r := vals_of_abs h
  exact sqT_of e (by rw [← r.length]; exact hl) r H
 ·cases h
def refAt (K : PySem.W.Frag) (a : Addr) (n : Nat) : Addr := match tupAt K a with
 | some us => (match us[n]? with
  | some (.ref b) => b
  | _ => 0)
 | none => 0
theorem range_at {α : Type} {f g : Nat → α} {m : Nat} (h : (List.range m).map f = (List.range m).map g) {n : Nat} (hn : n < m) : f n = g n := by
 have e := congrArg (·[n]?) h
 simp only [List.getElem?_map,List.getElem?_range hn,Option.map_some] at e
 exact Option.some.inj e
end L2
namespace PySem
section
variable {prog : Program} {w : World} {A : Around} {E : Value → Shared → Prop} {s : Shared}
end
end PySem
namespace PySem
section
variable {prog : Program} {w : World} {A : Around} {E : Value → Shared → Prop} {s : Shared} {Z TI TO i1 i2 : Addr} {f1 f2 : List Addr} {n1 n2 k : Nat} {P1 P2 : Nat → Value → Prop} {S1 S2 : Nat → Heap → Prop} {a b : Value}
end
end PySem
namespace PySem
open AutoSeq1 (wpAny_loadPart')
end PySem
namespace L2
open PySem PySem.Spec PyProof.Rows
end L2
namespace CkT
open PySem PySem.SetTable
end CkT
namespace CkT
open PySem PySem.SetTable
variable {α : Type}
end CkT
namespace CkT
open PySem PySem.SetTable
section
variable {prog : Program} {w : World} {K : Type} [DecidableEq K] {knd : KeyKind prog w K} {A : Around} {E : Value → Shared → Prop} {s : Shared}
end
end CkT
namespace CkT
open PySem PySem.SetTable
section
variable {prog : Program} {w : World} {K : Type} [DecidableEq K] (knd : KeyKind prog w K)
variable {knd} {A : Around} {E : Value → Shared → Prop} {s : Shared}
variable {S a : Addr} {ks : List (List K)} {es : Array (Int × Value)} {ep : Nat} {t : SetTable} {m : Nat} {cells : List (Option (Int × Value))} {k : List K}
end
end CkT
namespace CkT
open PySem PySem.SetTable
section
variable {prog : Program} {w : World} {K : Type} [DecidableEq K] {knd : KeyKind prog w K} {A : Around} {E : Value → Shared → Prop}
end
end CkT
namespace PySem
section
variable {prog : Program} {w : World} {K : Type} [DecidableEq K] {knd : KeyKind prog w K} {A : Around} {E : Value → Shared → Prop} {s : Shared}
end
end PySem
namespace PySem
section
variable {prog : Program} {w : World} {K : Type} [DecidableEq K] {knd : HeapKind prog w K} {A : Around} {E : Value → Shared → Prop} {s : Shared}
end
end PySem
namespace PySem
namespace F
end F
section
variable {prog : Program} {w : World} {A : Around} {E : Value → Shared → Prop} {s : Shared}
open AutoSeq1 (wpAny_loadPart')
end
end PySem
namespace L2
open PySem PySem.Spec PyProof.Rows
section
variable {X : Cx} {pins : List (Addr × Obj)} {σ : St} {H : Hp} {s : Shared} {a b : Addr} {kvs : List (List Key × V)} {k : List Key} {A : Around} {E : Value → Shared → Prop}
end
section
variable {X : Cx} {e f i : Expr} {apos cpos pos p : Pos} {ty tx : TE} {a : Addr} {kvs : List (List Key × V)} {x : Str}
end
section
variable {X : Cx} {o e f : Expr} {apos cpos : Pos} {td ty tx : TE}
end
section
variable {X : Cx}
end
end L2
namespace HT
open PySem PyProof.Rows
section
variable {prog : Program} {w : World} {A : Around} {E : Value → Shared → Prop} {s : Shared}
end
end HT
namespace L2
open PySem PySem.Spec PyProof.Rows
section
variable {X : Cx}
end
section
variable {X : Cx} {e f i : Expr} {pos p : Pos} {ty : TE} {a : Addr} {kvs : List (Key × V)} {x : Str}
end
end L2
namespace Ck
open Ls
end Ck
namespace Ck
open PySem L2
end Ck
namespace Ar
open PySem L2 Ck R
theorem op_fdivB {X : Cx} : OpR X (binaryOp .FloorDiv) (rI (fun _ j => 0 < j ∧ j < 18446744073709551616) fun i j => .int (i / j)) := opI fun i j _ _ _ _ _ hc q => by
 have h1 : (0 : Int) < j := hc.1
 have h2 : j < 18446744073709551616 := hc.2
 exact PyProof.Rows.floordiv_int (by omega) (by rw [Int.fdiv_eq_ediv_of_nonneg i (by omega)]; exact q) (.inl (PyProof.noPylong_of_log2 (Nat.lt_of_lt_of_le ((Nat.log2_lt (by omega)).2 (show j.natAbs < 2 ^ 64 by omega)) (by decide))))
def Sm (a : Int) : Prop := -9223372036854775808 ≤ a ∧ a ≤ 9223372036854775807
section
variable {P : Program} {w : World} {K : PySem.W.Frag} {mg : Str → Option Value} {base : Heap}
def spOp (o : Nat) : Sp := fun vs H Q _ => ∃ a b : Int,vs = [.int a,.int b] ∧ Sm a ∧ Sm b ∧ ((o = 3 ∨ o = 4) → b ≠ 0) ∧ Q (.int (resP o a b)) H
theorem scPlus : FnScope ["a","b"] ["a","b"] (defScope sPlus) := ⟨rfl,rfl,rfl,by decide +kernel,rfl,by decide +kernel,by decide +kernel⟩
theorem ok_plus {f : Addr} {fd : FuncData} (F : Fun K "plus" "plus" sPlus f fd) : FnOk P w K mg base CX0 1 f fd ["a","b"] (spOp 0) := by
 refine F.ok scPlus (fun vs H Q E h => by obtain ⟨a,b,rfl,_⟩ := h; rfl) (fun cdv A outer s H vs Q E hr h => ?_)
 obtain ⟨a,b,rfl,ha,hb,hn,k⟩ := h
 exact ⟨_,pss_one (ps_ret (pe_op op_add (pv 0) (pv 1))),_,rfl,_,rfl,_,_,rfl,rfl,k⟩
theorem scMinus : FnScope ["a","b"] ["a","b"] (defScope sMinus) := ⟨rfl,rfl,rfl,by decide +kernel,rfl,by decide +kernel,by decide +kernel⟩
theorem ok_minus {f : Addr} {fd : FuncData} (F : Fun K "minus" "minus" sMinus f fd) : FnOk P w K mg base CX0 1 f fd ["a","b"] (spOp 1) := by
 refine F.ok scMinus (fun vs H Q E h => by obtain ⟨a,b,rfl,_⟩ := h; rfl) (fun cdv A outer s H vs Q E hr h => ?_)
 obtain ⟨a,b,rfl,ha,hb,hn,k⟩ := h
 exact ⟨_,pss_one (ps_ret (pe_op op_sub (pv 0) (pv 1))),_,rfl,_,rfl,_,_,rfl,rfl,k⟩
theorem scTimes : FnScope ["a","b"] ["a","b"] (defScope sTimes) := ⟨rfl,rfl,rfl,by decide +kernel,rfl,by decide +kernel,by decide +kernel⟩
theorem ok_times {f : Addr} {fd : FuncData} (F : Fun K "times" "times" sTimes f fd) : FnOk P w K mg base CX0 1 f fd ["a","b"] (spOp 2) := by
 refine F.ok scTimes (fun vs H Q E h => by obtain ⟨a,b,rfl,_⟩ := h; rfl) (fun cdv A outer s H vs Q E hr h => ?_)
 obtain ⟨a,b,rfl,⟨ha,ha'⟩,hb,hn,k⟩ := h
 exact ⟨_,pss_one (ps_ret (pe_op op_mul (pv 0) (pv 1))),_,rfl,_,rfl,_,_,rfl,rfl,.inl ⟨by omega,by omega⟩,k⟩
theorem abs_nat (a : Int) : (if a < 0 then -a else a) = (a.natAbs : Int) := by split <;> omega
theorem scQuo : FnScope ["a","b","size"] ["a","b"] (defScope sQuo) := ⟨rfl,rfl,rfl,by decide +kernel,rfl,by decide +kernel,by decide +kernel⟩
theorem ok_quo {f : Addr} {fd : FuncData} (F : Fun K "quotient" "quotient" sQuo f fd) (hab : mg "abs" = none) : FnOk P w K mg base CX0 1 f fd ["a","b"] (spOp 3) := by
 refine F.ok scQuo (fun vs H Q E h => by obtain ⟨a,b,rfl,_⟩ := h; rfl) (fun cdv A outer s H vs Q E hr h => ?_)
 obtain ⟨a,b,rfl,⟨ha,ha'⟩,⟨hb,hb'⟩,hn,k⟩ := h
 have hb0 : b ≠ 0 := hn (.inl rfl)
 refine ⟨_,pss_cons (ps_set (i := 2) scQuo.nd rfl (Or.inl rfl) (pe_op op_fdivB (pe_callB call_abs (by rfl) hab PyProof.Rows.boot_abs (pa_cons (pv 0) pa_nil)) (pe_callB call_abs (by rfl) hab PyProof.Rows.boot_abs (pa_cons (pv 1) pa_nil))))
  (pss_one (ps_ret (pe_ifExp (pt_cmpR op_eq (pe_cmpR op_lt (pv 0) pe_int (nomark _)) (pe_cmpR op_lt (pv 1) pe_int (nomark _)) (nomark _)) (pv 2) (pe_un un_neg (pv 2))))),?_⟩
 refine ⟨_,rfl,a,rfl,_,rfl,b,rfl,_,_,rfl,rfl,⟨by rw [abs_nat]; omega,by rw [abs_nat]; omega⟩,?_⟩
 refine ⟨_,rfl,_,_,rfl,rfl,_,rfl,_,_,rfl,rfl,rfl,_,rfl,?_⟩
 have es : ((if a < 0 then -a else a) / (if b < 0 then -b else b) : Int) = ((a.natAbs / b.natAbs : Nat) : Int) := by rw [abs_nat,abs_nat]; rfl
 have k' : Q (.int (quoP a b)) H := k
 unfold quoP at k'
 show if decide (V.bl (decide (a < 0)) = V.bl (decide (b < 0))) = true then _ else _
 have ed : decide (V.bl (decide (a < 0)) = V.bl (decide (b < 0))) = decide (decide (a < 0) = decide (b < 0)) := decide_eq_decide.mpr ⟨fun e => by injection e,fun e => by rw [e]⟩
 rw [ed]
 by_cases c : decide (a < 0) = decide (b < 0)
 ·rw [decide_eq_true c]
  rw [if_pos c,← es] at k'
  exact iteT ⟨_,rfl,k'⟩
 ·rw [decide_eq_false c]
  rw [if_neg c,← es] at k'
  exact iteF ⟨_,rfl,_,rfl,k'⟩
theorem scRem : FnScope ["a","b","size"] ["a","b"] (defScope sRem) := ⟨rfl,rfl,rfl,by decide +kernel,rfl,by decide +kernel,by decide +kernel⟩
theorem ok_rem {f : Addr} {fd : FuncData} (F : Fun K "remainder" "remainder" sRem f fd) (hab : mg "abs" = none) : FnOk P w K mg base CX0 1 f fd ["a","b"] (spOp 4) := by
 refine F.ok scRem (fun vs H Q E h => by obtain ⟨a,b,rfl,_⟩ := h; rfl) (fun cdv A outer s H vs Q E hr h => ?_)
 obtain ⟨a,b,rfl,⟨ha,ha'⟩,⟨hb,hb'⟩,hn,k⟩ := h
 have hb0 : b ≠ 0 := hn (.inr rfl)
 refine ⟨_,pss_cons (ps_set (i := 2) scRem.nd rfl (Or.inl rfl) (pe_op op_mod (pe_callB call_abs (by rfl) hab PyProof.Rows.boot_abs (pa_cons (pv 0) pa_nil)) (pe_callB call_abs (by rfl) hab PyProof.Rows.boot_abs (pa_cons (pv 1) pa_nil))))
  (pss_one (ps_ret (pe_ifExp (pt_cmpR op_lt (pv 0) pe_int (nomark _)) (pe_un un_neg (pv 2)) (pv 2)))),?_⟩
 refine ⟨_,rfl,a,rfl,_,rfl,b,rfl,_,_,rfl,rfl,(by show (0 : Int) < if b < 0 then -b else b; rw [abs_nat]; omega),?_⟩
 refine ⟨_,rfl,_,_,rfl,rfl,_,rfl,?_⟩
 have es : ((if a < 0 then -a else a) % (if b < 0 then -b else b) : Int) = ((a.natAbs % b.natAbs : Nat) : Int) := by rw [abs_nat,abs_nat]; rfl
 have k' : Q (.int (remP a b)) H := k
 unfold remP at k'
 refine ite2 (fun g => ?_) (fun g => ?_)
 ·rw [if_pos (of_decide_eq_true g),← es] at k'
  exact ⟨_,rfl,_,rfl,k'⟩
 ·rw [if_neg (fun z => g (decide_eq_true z)),← es] at k'
  exact ⟨_,rfl,k'⟩
theorem scLess : FnScope ["a","b"] ["a","b"] (defScope sLess) := ⟨rfl,rfl,rfl,by decide +kernel,rfl,by decide +kernel,by decide +kernel⟩
theorem ok_less {f : Addr} {fd : FuncData} (F : Fun K "less" "less" sLess f fd) : FnOk P w K mg base CX0 1 f fd ["a","b"] (spOp 5) := by
 refine F.ok scLess (fun vs H Q E h => by obtain ⟨a,b,rfl,_⟩ := h; rfl) (fun cdv A outer s H vs Q E hr h => ?_)
 obtain ⟨a,b,rfl,ha,hb,hn,k⟩ := h
 refine ⟨_,pss_one (ps_ret (pe_ifExp (pt_cmpR op_lt (pv 0) (pv 1) (nomark _)) pe_int pe_int)),_,rfl,_,rfl,_,_,rfl,rfl,_,rfl,?_⟩
 have k' : Q (.int (if a < b then 1 else 0)) H := k
 refine ite2 (fun g => ?_) (fun g => ?_)
 ·rw [if_pos (of_decide_eq_true g)] at k'; exact k'
 ·rw [if_neg (fun z => g (decide_eq_true z))] at k'; exact k'
theorem scEqual : FnScope ["a","b"] ["a","b"] (defScope sEqual) := ⟨rfl,rfl,rfl,by decide +kernel,rfl,by decide +kernel,by decide +kernel⟩
theorem ok_equal {f : Addr} {fd : FuncData} (F : Fun K "equal" "equal" sEqual f fd) : FnOk P w K mg base CX0 1 f fd ["a","b"] (spOp 6) := by
 refine F.ok scEqual (fun vs H Q E h => by obtain ⟨a,b,rfl,_⟩ := h; rfl) (fun cdv A outer s H vs Q E hr h => ?_)
 obtain ⟨a,b,rfl,ha,hb,hn,k⟩ := h
 refine ⟨_,pss_one (ps_ret (pe_ifExp (pt_cmpR op_eq (pv 0) (pv 1) (nomark _)) pe_int pe_int)),_,rfl,_,rfl,rfl,_,rfl,?_⟩
 have k' : Q (.int (if a = b then 1 else 0)) H := k
 rw [decV]
 refine ite2 (fun g => ?_) (fun g => ?_)
 ·rw [if_pos (of_decide_eq_true g)] at k'; exact k'
 ·rw [if_neg (fun z => g (decide_eq_true z))] at k'; exact k'
def spInv : Sp := fun vs H Q _ => ∃ a : Int,vs = [.int a] ∧ Q (.int (if a = 0 then 1 else 0)) H
theorem scInv : FnScope ["a"] ["a"] (defScope sInv) := ⟨rfl,rfl,rfl,by decide +kernel,rfl,by decide +kernel,by decide +kernel⟩
theorem ok_inv {f : Addr} {fd : FuncData} (F : Fun K "inverse" "inverse" sInv f fd) : FnOk P w K mg base CX0 1 f fd ["a"] spInv := by
 refine F.ok scInv (fun vs H Q E h => by obtain ⟨a,rfl,_⟩ := h; rfl) (fun cdv A outer s H vs Q E hr h => ?_)
 obtain ⟨a,rfl,k⟩ := h
 refine ⟨_,pss_one (ps_ret (pe_ifExp (pt_cmpR op_eq (pv 0) pe_int (nomark _)) pe_int pe_int)),_,rfl,rfl,_,rfl,?_⟩
 rw [decV]
 refine ite2 (fun g => ?_) (fun g => ?_)
 ·rw [if_pos (of_decide_eq_true g)] at k; exact k
 ·rw [if_neg (fun z => g (decide_eq_true z))] at k; exact k
end
end Ar
namespace L2
open PySem PySem.Spec PyProof.Rows
theorem int_mk {K : PySem.W.Frag} {h : Heap} {mg : Str → Option Value} {x : Str} {z : Int} {t : Tok} (X : K.In h) (G : h.Ns mainGlobals mg) (e : PySem.W.nsIn K mainGlobals x = some (some (.int z t))) : ∃ t,mg x = some (.int z t) := ⟨t,PySem.W.mg_of X G e⟩
end L2
namespace Ar
open PySem L2 Ck R
structure AriT (P : Program) (w : World) (K : PySem.W.Frag) (mg : Str → Option Value) (aA : Addr) (fA : Nat → Addr) : Prop where
 ops : mg nAri = some (.ref aA)
 opsT : ∀ H,SqT K H aA ((List.range 7).map fun n => V.ref (fA n))
 fns : ∀ (base : Heap) (o : Nat),o ≤ 6 → ∃ fd,FnOk P w K mg base CX0 1 (fA o) fd ["a","b"] (spOp o) ∧ PySem.W.keepIn K (.ref (fA o)) = true ∧ Binds K fd ["a","b"] []
 add : ∃ t,mg "ADD" = some (.int 6 t)
 div : ∃ t,mg "DIV" = some (.int 9 t)
 mod : ∃ t,mg "MOD" = some (.int 10 t)
 least : ∃ t,mg "LEAST_NUMBER" = some (.int (-9223372036854775808) t)
 most : ∃ t,mg "MOST_NUMBER" = some (.int 9223372036854775807 t)
 byz : ∃ t,mg "BY_ZERO" = some (.int 2 t)
 outr : ∃ t,mg "OUT_OF_RANGE" = some (.int 1 t)
 goes : ∃ t,mg "GOES_ON" = some (.int 7 t)
section
variable {P : Program} {w : World} {K : PySem.W.Frag} {mg : Str → Option Value} {base : Heap} {aA : Addr} {fA : Nat → Addr}
theorem AriT.ix (T : AriT P w K mg aA fA) {o : Nat} (h : o ≤ 6) : atI ((List.range 7).map fun n => V.ref (fA n)) (o : Int) = some (V.ref (fA o)) := by
 refine atI_nat ?_
 rw [List.getElem?_map,List.getElem?_range (by omega)]; rfl
def spRes : Sp := fun vs H Q _ => ∃ (o : Nat) (a b : Int),vs = [.int ((6 + o : Nat) : Int),.int a,.int b] ∧ o ≤ 6 ∧ Sm a ∧ Sm b ∧ ((o = 3 ∨ o = 4) → b ≠ 0) ∧ Q (.int (resP o a b)) H
theorem scRes : FnScope ["number","a","b"] ["number","a","b"] (defScope sOpRes) := ⟨rfl,rfl,rfl,by decide +kernel,rfl,by decide +kernel,by decide +kernel⟩
theorem ok_res {f : Addr} {fd : FuncData} (F : Fun K "operation_result" "operation_result" sOpRes f fd) (T : AriT P w K mg aA fA) : FnOk P w K mg base CX0 2 f fd ["number","a","b"] spRes := by
 refine F.ok scRes (fun vs H Q E h => by obtain ⟨o,a,b,rfl,_⟩ := h; rfl) (fun cdv A outer s H vs Q E hr h => ?_)
 obtain ⟨o,a,b,rfl,ho,ha,hb,hn,k⟩ := h
 obtain ⟨ta,hA⟩ := T.add
 refine ⟨_,pss_one (ps_ret (pe_callV (pe_ix ix_tup (pe_glob (v := V.ref aA) (by rfl) T.ops rfl) (pe_op op_sub (pv 0) (pe_glob (v := V.int 6) (by rfl) hA ⟨ta,rfl⟩)) (fun _ _ => rfl)) (pa_cons (pv 1) (pa_cons (pv 2) pa_nil)))),?_⟩
 obtain ⟨fd',G,hk,hbd⟩ := T.fns base o ho
 have ei : (((6 + o : Nat) : Int) - 6) = ((o : Nat) : Int) := by omega
 refine ⟨_,rfl,_,_,rfl,rfl,aA,_,_,_,rfl,rfl,T.opsT _,(by rw [ei]; exact T.ix ho),fA o,fd',_,_,1,CX0,_,rfl,G,hr,hk,hbd,pass0,_,rfl,_,rfl,a,b,rfl,ha,hb,hn,k⟩
def spInR : Sp := fun vs H Q _ => ∃ z : Int,vs = [.int z] ∧ Q (.bl (Ls.inRange z)) H
theorem scInR : FnScope ["number"] ["number"] (defScope sInRange) := ⟨rfl,rfl,rfl,by decide +kernel,rfl,by decide +kernel,by decide +kernel⟩
theorem ok_inR {f : Addr} {fd : FuncData} (F : Fun K "in_range" "in_range" sInRange f fd) (T : AriT P w K mg aA fA) : FnOk P w K mg base CX0 1 f fd ["number"] spInR := by
 refine F.ok scInR (fun vs H Q E h => by obtain ⟨z,rfl,_⟩ := h; rfl) (fun cdv A outer s H vs Q E hr h => ?_)
 obtain ⟨z,rfl,k⟩ := h
 obtain ⟨t1,h1⟩ := T.least
 obtain ⟨t2,h2⟩ := T.most
 refine ⟨_,pss_one (ps_ret (pe_chain op_le op_le (pe_glob (v := V.int (-9223372036854775808)) (by rfl) h1 ⟨t1,rfl⟩) (pv 0) (pe_glob (v := V.int 9223372036854775807) (by rfl) h2 ⟨t2,rfl⟩))),?_⟩
 refine ⟨_,rfl,_,_,rfl,rfl,_,rfl,?_⟩
 unfold Ls.inRange at k
 refine ite2 (fun g => ?_) (fun g => ?_)
 ·rw [g] at k
  exact ⟨_,_,rfl,rfl,k⟩
 ·have g' : decide ((-9223372036854775808 : Int) ≤ z) = false := by simpa using g
  rw [g'] at k
  exact k
def spStd : Sp := fun vs H Q _ => ∃ (o : Nat) (a b : Int),vs = [.int ((6 + o : Nat) : Int),.int a,.int b] ∧ o ≤ 6 ∧ Sm a ∧ Sm b ∧ ∀ H',Same H H' → Q (.int ((stdP o a b : Nat) : Int)) H'
theorem scStd : FnScope ["number","a","b"] ["number","a","b"] (defScope sOpStd) := ⟨rfl,rfl,rfl,by decide +kernel,rfl,by decide +kernel,by decide +kernel⟩
theorem in_div (o : Nat) : inV (V.int ((6 + o : Nat) : Int)) [.int 9,.int 10] = decide (o = 3 ∨ o = 4) := by
 show (([.int 9,.int 10] : List V).any fun y => eqV y (V.int ((6 + o : Nat) : Int))) = _
 simp only [List.any_cons,List.any_nil,Bool.or_false,eqV]
 have c1 : ((9 : Int) == ((6 + o : Nat) : Int)) = decide (o = 3) := by
  by_cases h : o = 3
  ·subst h; rfl
  ·rw [decide_eq_false h]; exact beq_false_of_ne fun z => h (by omega)
 have c2 : ((10 : Int) == ((6 + o : Nat) : Int)) = decide (o = 4) := by
  by_cases h : o = 4
  ·subst h; rfl
  ·rw [decide_eq_false h]; exact beq_false_of_ne fun z => h (by omega)
 rw [c1,c2]
 by_cases h1 : o = 3 <;> by_cases h2 : o = 4 <;> simp [h1,h2]
theorem ok_std {f f1 : Addr} {fd fd1 : FuncData} (F : Fun K "operation_standing" "operation_standing" sOpStd f fd) (T : AriT P w K mg aA fA) (D1 : Dn K mg "in_range" sInRange f1 fd1 ["number"]) : FnOk P w K mg base CX0 2 f fd ["number","a","b"] spStd := by
 have G1 : FnOk P w K mg base CX0 1 f1 fd1 ["number"] spInR := ok_inR D1.fn T
 refine F.ok scStd (fun vs H Q E h => by obtain ⟨o,a,b,rfl,_⟩ := h; rfl) (fun cdv A outer s H vs Q E hr h => ?_)
 obtain ⟨o,a,b,rfl,ho,ha,hb,k⟩ := h
 obtain ⟨ta,hA⟩ := T.add
 obtain ⟨t9,h9⟩ := T.div
 obtain ⟨t10,h10⟩ := T.mod
 obtain ⟨t2,hz⟩ := T.byz
 obtain ⟨t1,hou⟩ := T.outr
 obtain ⟨t7,hgo⟩ := T.goes
 refine ⟨_,pss_cons (ps_if (pw_and (pt_cmpR op_in_seq (pv 0) (pe_tup (pa_cons (pe_glob (v := V.int 9) (by rfl) h9 ⟨t9,rfl⟩) (pa_cons (pe_glob (v := V.int 10) (by rfl) h10 ⟨t10,rfl⟩) pa_nil))) rfl) (pw_and1 (pt_cmpR op_eq (pv 2) pe_int (nomark _)))).pt (pss_one (ps_ret (pe_glob (v := V.int 2) (by rfl) hz ⟨t2,rfl⟩))) pss_nil)
  (pss_cons (ps_if (pt_val (pe_call G1 hr (by rfl) D1.at_ D1.fn.kp D1.bd .nil pass0 (pa_cons (pe_callV (pe_ix ix_tup (pe_glob (v := V.ref aA) (by rfl) T.ops rfl) (pe_op op_sub (pv 0) (pe_glob (v := V.int 6) (by rfl) hA ⟨ta,rfl⟩)) (fun _ _ => rfl)) (pa_cons (pv 1) (pa_cons (pv 2) pa_nil))) pa_nil)) (fun _ => rfl)) (pss_one (ps_ret (pe_glob (v := V.int 7) (by rfl) hgo ⟨t7,rfl⟩))) pss_nil)
  (pss_one (ps_ret (pe_glob (v := V.int 1) (by rfl) hou ⟨t1,rfl⟩)))),?_⟩
 have h2l : (2 : Nat) ≤ sizeLine := by have := line_big'; omega
 obtain ⟨fd',G,hk,hbd⟩ := T.fns base o ho
 have ei : (((6 + o : Nat) : Int) - 6) = ((o : Nat) : Int) := by omega
 unfold stdP at k
 refine ⟨_,rfl,h2l,fun q hq => ⟨q,_,rfl,.inr (SqT.of upd_same),rfl,rfl,_,rfl,?_⟩⟩
 have s1 : Same H (upd H q (.tup [.int 9,.int 10])) := Same.upd' (Same.refl H) hq
 revert s1
 generalize upd H q (.tup [.int 9,.int 10]) = H1
 intro s1
 show if inV (V.int ((6 + o : Nat) : Int)) [.int 9,.int 10] = true then _ else _
 rw [in_div]
 by_cases c : o = 3 ∨ o = 4
 ·rw [decide_eq_true c]
  refine iteT ⟨_,rfl,rfl,_,rfl,?_⟩
  show if decide (V.int b = V.int 0) = true then _ else _
  rw [decV]
  by_cases z : b = 0
  ·rw [decide_eq_true z]
   rw [if_pos ⟨c,z⟩] at k
   exact iteT (k _ s1)
  ·rw [decide_eq_false z]
   rw [if_neg (fun x => z x.2)] at k
   refine iteF ?_
   refine ⟨_,rfl,_,_,rfl,rfl,aA,_,_,_,rfl,rfl,T.opsT _,(by rw [ei]; exact T.ix ho),fA o,fd',_,_,1,CX0,_,rfl,G,hr,hk,hbd,pass0,_,rfl,_,rfl,a,b,rfl,ha,hb,(fun _ => z),resP o a b,rfl,_,rfl,?_⟩
   cases er : Ls.inRange (resP o a b) with
   | true => rw [er] at k; exact iteT (k _ s1)
   | false => rw [er] at k; exact iteF (k _ s1)
 ·rw [decide_eq_false c]
  rw [if_neg (fun x => c x.1)] at k
  refine iteF (iteF ?_)
  refine ⟨_,rfl,_,_,rfl,rfl,aA,_,_,_,rfl,rfl,T.opsT _,(by rw [ei]; exact T.ix ho),fA o,fd',_,_,1,CX0,_,rfl,G,hr,hk,hbd,pass0,_,rfl,_,rfl,a,b,rfl,ha,hb,(fun x => absurd x c),resP o a b,rfl,_,rfl,?_⟩
  cases er : Ls.inRange (resP o a b) with
  | true => rw [er] at k; exact iteT (k _ s1)
  | false => rw [er] at k; exact iteF (k _ s1)
end
end Ar
namespace Sh
open Ls
def widthsOf (n : Nat) : List Nat := WIDTHS.getD n []
def opsAt : List Nat → Bytes → List Nat
 | [],_ => []
 | w :: ws,r => ofBytes (r.take w) :: opsAt ws (r.drop w)
theorem operands_eq : ∀ (ws : List Nat) (r : Bytes),operands ws r = if ws.sum ≤ r.length then some (opsAt ws r,ws.sum) else none
 | [],r => by simp [operands,opsAt]
 | w :: ws,r => by
  unfold operands
  rw [operands_eq ws (r.drop w),List.length_drop,List.sum_cons]
  by_cases h : r.length < w
  ·rw [if_pos h,if_neg (by omega)]
  ·rw [if_neg h]
   by_cases h2 : ws.sum ≤ r.length - w
   ·rw [if_pos h2,if_pos (by omega)]; rfl
   ·rw [if_neg h2,if_neg (by omega)]; rfl
theorem widths_some {n : Nat} (h : n < 21) : WIDTHS[n]? = some (widthsOf n) := by
 unfold widthsOf
 have e : WIDTHS.length = 21 := rfl
 rw [List.getD_eq_getElem?_getD,List.getElem?_eq_getElem (by omega)]; rfl
theorem widths_none {n : Nat} (h : ¬ n < 21) : WIDTHS[n]? = none := by
 have e : WIDTHS.length = 21 := rfl
 rw [List.getElem?_eq_none_iff]; omega
theorem decode_end {b : Bytes} {i : Nat} (h : b.length ≤ i) : decode b i = none := by
 unfold decode
 rw [List.drop_of_length_le h]
theorem decode_at {b : Bytes} {i : Nat} {c : UInt8} (h : b[i]? = some c) : decode b i = if c.toNat < 21 ∧ i + 1 + (widthsOf c.toNat).sum ≤ b.length then some (c.toNat,opsAt (widthsOf c.toNat) (b.drop (i + 1)),1 + (widthsOf c.toNat).sum) else none := by
 obtain ⟨hi,hc⟩ := List.getElem?_eq_some_iff.mp h
 unfold decode
 rw [List.drop_eq_getElem_cons hi,hc]
 show (match WIDTHS[c.toNat]? with | none => none | some ws => _) = _
 by_cases h1 : c.toNat < 21
 ·rw [widths_some h1]
  show Option.map _ (operands _ _) = _
  rw [operands_eq,List.length_drop]
  by_cases h2 : (widthsOf c.toNat).sum ≤ b.length - (i + 1)
  ·rw [if_pos h2,if_pos ⟨h1,by omega⟩]; rfl
  ·rw [if_neg h2,if_neg (by omega)]; rfl
 ·rw [widths_none h1,if_neg (fun z => h1 z.1)]
theorem opsAt_len : ∀ (ws : List Nat) (r : Bytes),(opsAt ws r).length = ws.length
 | [],_ => rfl
 | _ :: ws,r => by simp [opsAt,opsAt_len ws]
theorem ofBytes_cons (c : UInt8) (r : Bytes) : ofBytes (c :: r) = c.toNat + 256 * ofBytes r := rfl
theorem ofBytes_lt : ∀ r : Bytes,ofBytes r < 256 ^ r.length
 | [] => by decide
 | c :: r => by
  rw [ofBytes_cons,List.length_cons,Nat.pow_succ]
  have := ofBytes_lt r
  have := c.toNat_lt
  omega
def numsOf (n : Nat) (ops : List Nat) : List Int := if n = 1 then ops.map signed else ops.map fun (x : Nat) => (x : Int)
theorem text_back {l : List Int} (h : ∀ x ∈ l,0 ≤ x ∧ x ≤ 255) : (LsNeutral.text l).map (fun (c : UInt8) => (c.toNat : Int)) = l := by
 unfold LsNeutral.text LsNeutral.nats
 rw [List.map_map,List.map_map]
 conv => rhs; rw [← List.map_id l]
 refine List.map_congr_left fun x hx => ?_
 obtain ⟨h1,h2⟩ := h x hx
 show ((UInt8.ofNat x.toNat).toNat : Int) = x
 rw [UInt8.toNat_ofNat',Nat.mod_eq_of_lt (by omega)]
 omega
end Sh
namespace Ins
open PySem L2 R
abbrev Bytes := Ls.Bytes
def vB (b : Bytes) : List V := b.map fun c => V.int (c.toNat : Int)
theorem vB_len (b : Bytes) : (vB b).length = b.length := List.length_map ..
theorem vB_at {b : Bytes} {i : Nat} {c : UInt8} (h : b[i]? = some c) : (vB b)[i]? = some (V.int (c.toNat : Int)) := by
 unfold vB
 rw [List.getElem?_map,h]; rfl
theorem vB_get {b : Bytes} {i : Nat} {v : V} (h : (vB b)[i]? = some v) : ∃ c,b[i]? = some c ∧ v = V.int (c.toNat : Int) := by
 unfold vB at h
 rw [List.getElem?_map] at h
 cases e : b[i]? with
 | none => rw [e] at h; cases h
 | some c => rw [e] at h; exact ⟨c,rfl,(Option.some.inj h).symm⟩
theorem vB_drop (b : Bytes) (n : Nat) : (vB b).drop n = vB (b.drop n) := by unfold vB; rw [List.map_drop]
theorem vB_take (b : Bytes) (n : Nat) : (vB b).take n = vB (b.take n) := by unfold vB; rw [List.map_take]
theorem vB_rev (b : Bytes) : (vB b).reverse = vB b.reverse := by unfold vB; rw [List.map_reverse]
def wI (n : Nat) : List Int := (Sh.widthsOf n).map fun (x : Nat) => (x : Int)
theorem wI_sum (n : Nat) : (wI n).sum = (((Sh.widthsOf n).sum : Nat) : Int) := by
 unfold wI
 generalize Sh.widthsOf n = l
 induction l with
 | nil => rfl
 | cons a r ih => rw [List.map_cons,List.sum_cons,List.sum_cons,ih]; omega
def sizeOf (n : Nat) : Int := 1 + (wI n).sum
def insF (n : Nat) (l : Addr) : List (Str × V) := [("number",.int (n : Int)),("operands",.ref l),("size",.int (sizeOf n))]
theorem ne1 : ¬ (("number" : Str) = "operands") := by decide +kernel
theorem ne2 : ¬ (("number" : Str) = "size") := by decide +kernel
theorem ne3 : ¬ (("operands" : Str) = "size") := by decide +kernel
theorem insF_number (n : Nat) (l : Addr) : (insF n l).lookup ("number" : Str) = some (.int (n : Int)) := by
 unfold insF
 rw [List.lookup_cons_self]
theorem insF_operands (n : Nat) (l : Addr) : (insF n l).lookup ("operands" : Str) = some (.ref l) := by
 unfold insF
 rw [List.lookup_cons,beq_false_of_ne (fun e => ne1 e.symm),List.lookup_cons_self]
theorem insF_size (n : Nat) (l : Addr) : (insF n l).lookup ("size" : Str) = some (.int (sizeOf n)) := by
 unfold insF
 rw [List.lookup_cons,beq_false_of_ne (fun e => ne2 e.symm),List.lookup_cons,beq_false_of_ne (fun e => ne3 e.symm),List.lookup_cons_self]
theorem insF_mk (n : Nat) (l : Addr) : putF "size" (.int (sizeOf n)) (putF "operands" (.ref l) (putF "number" (.int (n : Int)) [])) = insF n l := by
 show putF "size" (.int (sizeOf n)) (if ("number" : Str) = "operands" then _ else (("number" : Str),V.int (n : Int)) :: [(("operands" : Str),V.ref l)]) = _
 rw [if_neg ne1]
 show (if ("number" : Str) = "size" then _ else (("number" : Str),V.int (n : Int)) :: (if ("operands" : Str) = "size" then _ else (("operands" : Str),V.ref l) :: [(("size" : Str),V.int (sizeOf n))])) = _
 rw [if_neg ne2,if_neg ne3]; rfl
structure InsT (K : PySem.W.Frag) (mg : Str → Option Value) (C aW : Addr) (wA : Nat → Addr) : Prop where
 push : ∃ t,mg "PUSH" = some (.int 1 t)
 fbz : ∃ t,mg "FIRST_BELOW_ZERO" = some (.int 9223372036854775808 t)
 pm : ∃ t,mg "PUSH_MODULUS" = some (.int 18446744073709551616 t)
 widths : mg "WIDTHS" = some (.ref aW)
 widT : ∀ H,SqT K H aW ((List.range 21).map fun n => V.ref (wA n))
 wat : ∀ n,n < 21 → ∀ H,SqT K H (wA n) ((wI n).map V.int)
 cl : Cls K C
 nN : NoAttr K C "number"
 nO : NoAttr K C "operands"
 nS : NoAttr K C "size"
 mgC : mg "Instruction" = some (.ref C)
 sum : mg "sum" = none
 len : mg "len" = none
theorem InsT.wix {K : PySem.W.Frag} {mg : Str → Option Value} {C aW : Addr} {wA : Nat → Addr} (T : InsT K mg C aW wA) {n : Nat} (h : n < 21) : atI ((List.range 21).map fun n => V.ref (wA n)) (n : Int) = some (V.ref (wA n)) := by
 refine atI_nat ?_
 rw [List.getElem?_map,List.getElem?_range h]; rfl
section
variable {P : Program} {w : World} {K : PySem.W.Frag} {mg : Str → Option Value} {base : Heap} {C aW : Addr} {wA : Nat → Addr}
def spInit (C : Addr) : Sp := fun vs H Q _ => ∃ (p dx l : Addr) (n : Nat),vs = [.ref p,.int (n : Int),.ref l] ∧ n < 21 ∧ H p = some (.ins C dx []) ∧ Q .non (upd H p (.ins C dx (insF n l)))
theorem scInit : FnScope ["self","number","operands"] ["self","number","operands"] (defScope sInit) := ⟨rfl,rfl,rfl,by decide +kernel,rfl,by decide +kernel,by decide +kernel⟩
theorem ok_init {f : Addr} {fd : FuncData} (F : Fun K "__init__" "Instruction.__init__" sInit f fd) (T : InsT K mg C aW wA) : FnOk P w K mg base CX0 1 f fd ["self","number","operands"] (spInit C) := by
 refine F.ok scInit (fun vs H Q E h => ?_) (fun cdv A outer s H vs Q E hr h => ?_)
 ·obtain ⟨p,dx,l,n,rfl,_⟩ := h
  rfl
 ·obtain ⟨p,dx,l,n,rfl,hn,hp,k⟩ := h
  refine ⟨_,pss_cons (ps_fld (pv 0) (pv 1) rfl) (pss_cons (ps_fld (pv 0) (pv 2) rfl)
   (pss_one (ps_fld (pv 0) (pe_op op_add pe_int (pe_callB (cr_sumT rfl) (by rfl) T.sum PyProof.Rows.boot_sum (pa_cons (pe_ix ix_tup (pe_glob (v := V.ref aW) (by rfl) T.widths rfl) (pv 1) (fun _ _ => rfl)) pa_nil))) rfl))),?_⟩
  refine ⟨_,rfl,_,rfl,p,C,dx,[],rfl,hp,T.cl,T.nN,(by show 0 < 1000; decide),?_⟩
  refine ⟨_,rfl,_,rfl,p,C,dx,_,rfl,upd_same,T.cl,T.nO,(by show 1 < 1000; decide),?_⟩
  refine ⟨_,rfl,aW,_,_,_,rfl,rfl,T.widT _,T.wix hn,_,_,rfl,T.wat n hn _,_,_,rfl,rfl,_,rfl,p,C,dx,_,rfl,upd_same,T.cl,T.nS,?_,?_⟩
  ·have := length_putF "operands" (V.ref l) (putF "number" (V.int (n : Int)) [])
   have := length_putF "number" (V.int (n : Int)) []
   simp only [List.length_nil] at this
   omega
  ·show Q .non (upd (upd (upd H p _) p _) p _)
   rw [upd_upd,upd_upd]
   have e := insF_mk n l
   unfold sizeOf at e
   rw [e]
   exact k
theorem ofBytes_rev (b : Bytes) : Ls.ofBytes b = b.reverse.foldl (fun (v : Nat) (c : UInt8) => v * 256 + c.toNat) 0 := by
 rw [List.foldl_reverse]
 unfold Ls.ofBytes
 congr 1
 funext c n
 omega
def spOper (K : PySem.W.Frag) : Sp := fun vs H Q _ => ∃ (a : Addr) (b : Bytes) (i k : Nat),vs = [.ref a,.int (i : Int),.int (k : Int)] ∧ SqL K H a (vB b) ∧ b.length ≤ 300000 ∧
 ∀ H',Same H H' → Q (.int ((Ls.ofBytes ((b.drop i).take k) : Nat) : Int)) H'
theorem scOper : FnScope ["code","at","width","value","byte"] ["code","at","width"] (defScope sOper) := ⟨rfl,rfl,rfl,by decide +kernel,rfl,by decide +kernel,by decide +kernel⟩
theorem ok_oper {f : Addr} {fd : FuncData} (D : Dn K mg "operand_at" sOper f fd ["code","at","width"]) (hrev : mg "reversed" = none) : FnOk P w K mg base CX0 1 f fd ["code","at","width"] (spOper K) := by
 refine D.fn.ok scOper (fun vs H Q E h => ?_) (fun cdv A outer s H vs Q E hr h => ?_)
 ·obtain ⟨a,b,i,k,rfl,_⟩ := h
  rfl
 ·obtain ⟨a,b,i,n,rfl,hb,hl,k⟩ := h
  refine ⟨_,pss_cons (ps_set (i := 3) scOper.nd rfl (Or.inl rfl) pe_int)
   (pss_cons (ps_for PassesOwn.never rfl (pi_reversed (by rfl) hrev (pa_cons (pe_slice sl_list (pv 0) (po_some (pv 1)) (po_some (pe_op op_add (pv 1) (pv 2)))) pa_nil)) (pg_name (i := 4) scOper.nd rfl (Or.inl rfl))
    (pss_one (ps_set (i := 3) scOper.nd rfl (Or.inl rfl) (pe_op op_add (pe_op op_mul (pv 3) pe_int) (pv 4)))))
   (pss_one (ps_ret (pv 3)))),?_⟩
  refine ⟨_,rfl,_,rfl,_,rfl,_,rfl,_,rfl,_,_,rfl,rfl,_,rfl,a,_,rfl,hb,fun l hl0 => ?_⟩
  have ecut : cutV (vB b) (some (i : Int)) (some ((i : Int) + (n : Int))) = vB ((b.drop i).take n) := by
   rw [show (i : Int) + (n : Int) = ((i + n : Nat) : Int) by omega,cut_mid',vB_drop,vB_take,Nat.add_sub_cancel_left]
  rw [ecut]
  have sH : Same H (upd H l (.lst (vB ((b.drop i).take n)))) := Same.upd' (Same.refl H) hl0
  refine ⟨l,_,rfl,SqL.of upd_same,for_rev (K := K) (a := l) (xs := vB ((b.drop i).take n)) (fun j σ H2 => ∃ v4 : Option V,H2 = upd H l (.lst (vB ((b.drop i).take n))) ∧
    σ = [some (.ref a),some (.int (i : Int)),some (.int (n : Int)),some (.int (((((b.drop i).take n).reverse.take j).foldl (fun (v : Nat) (c : UInt8) => v * 256 + c.toNat) 0 : Nat) : Int)),v4])
   ⟨none,rfl,rfl⟩ (fun j σ H2 _ ⟨_,e,_⟩ => by rw [e]; exact SqL.of upd_same) ?_ ?_⟩
  ·rintro j x σ H2 hx ⟨v4,rfl,rfl⟩
   rw [vB_rev] at hx
   obtain ⟨c,hc,rfl⟩ := vB_get hx
   refine ⟨_,rfl,_,_,rfl,rfl,.inr ⟨by decide,by decide⟩,_,rfl,_,_,rfl,rfl,?_⟩
   refine ⟨some (.int (c.toNat : Int)),rfl,?_⟩
   rw [List.take_succ,hc]
   simp only [Option.toList_some,List.foldl_append,List.foldl_cons,List.foldl_nil]
   show [_,_,_,_,_] = [_,_,_,_,_]
   congr 4
  ·rintro σ H2 ⟨v4,rfl,rfl⟩
   refine ⟨_,rfl,?_⟩
   rw [vB_len,List.take_of_length_le (by rw [List.length_reverse]; exact Nat.le_refl _),← ofBytes_rev]
   exact k _ sH
theorem nums_push (ops : List Nat) : Sh.numsOf 1 ops = ops.map Ls.signed := by unfold Sh.numsOf; rw [if_pos rfl]
theorem nums_other {n : Nat} (h : n ≠ 1) (ops : List Nat) : Sh.numsOf n ops = ops.map fun (x : Nat) => (x : Int) := by unfold Sh.numsOf; rw [if_neg h]
def InsAt (C : Addr) (H : Hp) (p : Addr) (n : Nat) (zs : List Int) : Prop := ∃ dx l,H p = some (.ins C dx (insF n l)) ∧ H l = some (.lst (zs.map V.int))
def spAt (K : PySem.W.Frag) (C : Addr) : Sp := fun vs H Q _ => ∃ (a : Addr) (b : Bytes) (i : Nat),vs = [.ref a,.int (i : Int)] ∧ SqL K H a (vB b) ∧ b.length ≤ 300000 ∧
 (Ls.decode b i = none → ∀ H',Same H H' → Q .non H') ∧ ∀ n ops size,Ls.decode b i = some (n,ops,size) → ∀ H' p dx l,Same H H' → H p = none → H l = none → H' p = some (.ins C dx (insF n l)) → H' l = some (.lst ((Sh.numsOf n ops).map V.int)) → Q (.ref p) H'
theorem scAt : FnScope ["code","at","number","operands","place","width"] ["code","at"] (defScope sAt) := ⟨rfl,rfl,rfl,by decide +kernel,rfl,by decide +kernel,by decide +kernel⟩
theorem opsAt_get : ∀ (ws : List Nat) (r : Bytes) (j : Nat) (w : Nat),ws[j]? = some w → (Sh.opsAt ws r)[j]? = some (Ls.ofBytes ((r.drop (ws.take j).sum).take w))
 | [],r,j,w,h => by simp at h
 | v :: ws,r,0,w,h => by simp at h; subst h; simp [Sh.opsAt]
 | v :: ws,r,j + 1,w,h => by
  simp at h
  simp only [Sh.opsAt,List.getElem?_cons_succ,List.take_succ_cons,List.sum_cons]
  rw [opsAt_get ws _ j w h,List.drop_drop]
theorem wI_get {n j : Nat} {z : Int} (h : (wI n)[j]? = some z) : ∃ w,(Sh.widthsOf n)[j]? = some w ∧ z = (w : Int) := by
 unfold wI at h
 rw [List.getElem?_map] at h
 cases e : (Sh.widthsOf n)[j]? with
 | none => rw [e] at h; cases h
 | some w => rw [e] at h; exact ⟨w,rfl,(Option.some.inj h).symm⟩
theorem ok_at {f fI fO : Addr} {fd fdI fdO : FuncData} (D : Dn K mg "instruction_at" sAt f fd ["code","at"]) (T : InsT K mg C aW wA) (hrev : mg "reversed" = none)
  (DO : Dn K mg "operand_at" sOper fO fdO ["code","at","width"]) (M : Mk K C fI) (FI : Fun K "__init__" "Instruction.__init__" sInit fI fdI) (bI : Binds K fdI ["self","number","operands"] []) : FnOk P w K mg base CX0 3 f fd ["code","at"] (spAt K C) := by
 have GI : FnOk P w K mg base CX0 1 fI fdI ["self","number","operands"] (spInit C) := ok_init FI T
 have GO : FnOk P w K mg base CX0 1 fO fdO ["code","at","width"] (spOper K) := ok_oper DO hrev
 refine D.fn.ok scAt (fun vs H Q E h => ?_) (fun cdv A outer s H vs Q E hr h => ?_)
 ·obtain ⟨a,b,i,rfl,_⟩ := h
  rfl
 ·obtain ⟨a,b,i,rfl,hb,hl,kN,kS⟩ := h
  obtain ⟨tp,hpush⟩ := T.push
  obtain ⟨tf,hfbz⟩ := T.fbz
  obtain ⟨tm,hpm⟩ := T.pm
  have hr1 : Room 1 _ := hr.mono (by decide)
  refine ⟨_,pss_cons (ps_if (pw_or (pt_cmpR op_ge (pv 1) (pe_callB call_len_seq (by rfl) T.len PySem.boot_len (pa_cons (pv 0) pa_nil)) (nomark _))
    (pw_or1 (pt_cmpR op_ge (pe_ix ix_list (pv 0) (pv 1) (fun _ _ => rfl)) (pe_callB call_len_seq (by rfl) T.len PySem.boot_len (pa_cons (pe_glob (v := V.ref aW) (by rfl) T.widths rfl) pa_nil)) (nomark _)))).pt
    (pss_one (ps_ret pe_non)) pss_nil)
   (pss_cons (ps_set (i := 2) scAt.nd rfl (Or.inl rfl) (pe_ix ix_list (pv 0) (pv 1) (fun _ _ => rfl)))
   (pss_cons (ps_if (pt_cmpR op_gt (pe_op op_add (pe_op op_add (pv 1) pe_int) (pe_callB (cr_sumT rfl) (by rfl) T.sum PyProof.Rows.boot_sum (pa_cons (pe_ix ix_tup (pe_glob (v := V.ref aW) (by rfl) T.widths rfl) (pv 2) (fun _ _ => rfl)) pa_nil)))
     (pe_callB call_len_seq (by rfl) T.len PySem.boot_len (pa_cons (pv 0) pa_nil)) (nomark _)) (pss_one (ps_ret pe_non)) pss_nil)
   (pss_cons (ps_set (i := 3) scAt.nd rfl (Or.inl rfl) (pe_lst pa_nil))
   (pss_cons (ps_set (i := 4) scAt.nd rfl (Or.inl rfl) (pe_op op_add (pv 1) pe_int))
   (pss_cons (ps_for PassesOwn.never rfl (pi_tup (pe_ix ix_tup (pe_glob (v := V.ref aW) (by rfl) T.widths rfl) (pv 2) (fun _ _ => rfl))) (pg_name (i := 5) scAt.nd rfl (Or.inl rfl))
    (pss_cons (ps_expr (pe_bm PySem.F.plainAttrs_list PySem.F.slot_list_append PySem.F.type_list_append mt_append (pv 3) (pa_cons (pe_call GO hr1 (by rfl) DO.at_ DO.fn.kp DO.bd .nil pass0 (pa_cons (pv 0) (pa_cons (pv 4) (pa_cons (pv 5) pa_nil)))) pa_nil)))
    (pss_one (ps_set (i := 4) scAt.nd rfl (Or.inl rfl) (pe_op op_add (pv 4) (pv 5))))))
   (pss_cons (ps_if (pw_and (pt_cmpR op_eq (pv 2) (pe_glob (v := V.int 1) (by rfl) hpush ⟨tp,rfl⟩) (nomark _)) (pw_and1 (pt_cmpR op_ge (pe_ix ix_list (pv 3) pe_int (fun _ _ => rfl)) (pe_glob (v := V.int 9223372036854775808) (by rfl) hfbz ⟨tf,rfl⟩) (nomark _)))).pt
    (pss_one (ps_asg (pe_op op_sub (pe_ix ix_list (pv 3) pe_int (fun _ _ => rfl)) (pe_glob (v := V.int 18446744073709551616) (by rfl) hpm ⟨tm,rfl⟩)) (pg_sub (pv 3) pe_int set_list))) pss_nil)
   (pss_one (ps_ret (pe_make M GI hr (by rfl) T.mgC bI .nil pass0 (pa_cons (pv 2) (pa_cons (pv 3) pa_nil))))))))))),?_⟩
  refine ⟨_,rfl,_,rfl,a,_,rfl,.inl hb,_,_,rfl,rfl,_,rfl,?_⟩
  rw [vB_len]
  refine ite2 (fun h1 => ?_) (fun h1 => ?_)
  ·have h1' : b.length ≤ i := by have := of_decide_eq_true h1; omega
   exact iteT (kN (Sh.decode_end h1') H (Same.refl H))
  have h1' : i < b.length := by
   by_cases q : i < b.length
   ·exact q
   ·exact absurd (decide_eq_true (by omega)) h1
  obtain ⟨c,hc⟩ : ∃ c,b[i]? = some c := ⟨b[i],List.getElem?_eq_getElem h1'⟩
  have hdec := Sh.decode_at hc
  have hat : atI (vB b) (i : Int) = some (V.int (c.toNat : Int)) := atI_nat (vB_at hc)
  refine ⟨_,rfl,_,rfl,a,_,_,_,rfl,rfl,hb,hat,aW,_,rfl,.inr (T.widT _),_,_,rfl,rfl,_,rfl,?_⟩
  refine ite2 (fun h2 => ?_) (fun h2 => ?_)
  ·have h2' : ¬ c.toNat < 21 := by have := of_decide_eq_true h2; simp at this; omega
   rw [if_neg (fun z => h2' z.1)] at hdec
   exact kN hdec H (Same.refl H)
  have h2' : c.toNat < 21 := by
   by_cases q : c.toNat < 21
   ·exact q
   ·exact absurd (decide_eq_true (by simp; omega)) h2
  refine ⟨_,rfl,_,rfl,a,_,_,_,rfl,rfl,hb,hat,?_⟩
  refine ⟨_,rfl,_,_,rfl,rfl,_,rfl,aW,_,_,_,rfl,rfl,T.widT _,T.wix h2',_,_,rfl,T.wat _ h2' _,_,_,rfl,rfl,_,rfl,a,_,rfl,.inl hb,_,_,rfl,rfl,_,rfl,?_⟩
  rw [vB_len,wI_sum]
  refine ite2 (fun h3 => ?_) (fun h3 => ?_)
  ·have h3' : ¬ i + 1 + (Sh.widthsOf c.toNat).sum ≤ b.length := by have := of_decide_eq_true h3; omega
   rw [if_neg (fun z => h3' z.2)] at hdec
   exact kN hdec H (Same.refl H)
  have h3' : i + 1 + (Sh.widthsOf c.toNat).sum ≤ b.length := by
   by_cases q : i + 1 + (Sh.widthsOf c.toNat).sum ≤ b.length
   ·exact q
   ·exact absurd (decide_eq_true (by omega)) h3
  rw [if_pos ⟨h2',h3'⟩] at hdec
  have kS' := kS _ _ _ hdec
  refine ⟨(by show 0 ≤ sizeLine; exact Nat.zero_le _),fun l hl0 => ?_⟩
  have s0 : Same H (upd H l (.lst [])) := Same.upd' (Same.refl H) hl0
  have hlen4 : (Sh.widthsOf c.toNat).length ≤ 4 := by
   have : ∀ n,n < 21 → (Sh.widthsOf n).length ≤ 4 := by decide
   exact this _ h2'
  refine ⟨_,rfl,_,_,rfl,rfl,?_⟩
  refine ⟨_,rfl,aW,_,_,_,rfl,rfl,T.widT _,T.wix h2',_,rfl,⟨_,T.wat _ h2' _⟩,for_tup (K := K) (a := wA c.toNat) (xs := (wI c.toNat).map V.int) (fun j σ H2 => ∃ v5 : Option V,Same H H2 ∧ H2 l = some (.lst (((Sh.opsAt (Sh.widthsOf c.toNat) (b.drop (i + 1))).take j).map fun (x : Nat) => V.int (x : Int))) ∧
    σ = [some (.ref a),some (.int (i : Int)),some (.int (c.toNat : Int)),some (.ref l),some (.int ((i + 1 + ((Sh.widthsOf c.toNat).take j).sum : Nat) : Int)),v5])
   ⟨none,s0,upd_same,rfl⟩ (fun j σ H2 _ _ => T.wat _ h2' _) ?_ ?_⟩
  ·rintro j x σ H2 hx ⟨v5,s2,hl2,rfl⟩
   rw [List.getElem?_map] at hx
   obtain ⟨z,hz,rfl⟩ := Option.map_eq_some_iff.mp hx
   obtain ⟨wd,hwd,rfl⟩ := wI_get hz
   have hj : j < (Sh.widthsOf c.toNat).length := (List.getElem?_eq_some_iff.mp hwd).1
   refine ⟨_,rfl,.inl ⟨rfl,_,SqL.of hl2⟩,_,rfl,_,rfl,_,rfl,a,b,_,_,rfl,s2.seq hb,hl,fun H3 s3 => ?_⟩
   have hl3 := s3 _ _ hl2
   refine ⟨l,_,_,rfl,rfl,hl3,?_,?_⟩
   ·rw [List.length_map,List.length_take,Sh.opsAt_len]
    have := line_big'; omega
   ·refine ⟨_,rfl,_,rfl,_,_,rfl,rfl,?_⟩
    refine ⟨some (.int (wd : Int)),Same.upd' (s2.trans s3) hl0,?_,?_⟩
    ·rw [upd_same,List.take_succ (i := j),opsAt_get _ _ j wd hwd,List.map_append,List.drop_drop]
     rfl
    ·show [_,_,_,_,_,_] = [_,_,_,_,_,_]
     congr 5
     rw [List.take_succ (i := j),hwd]
     simp only [Option.toList_some,List.sum_append,List.sum_cons,List.sum_nil]
     congr 2
     omega
  ·rintro σ H2 ⟨v5,s2,hl2,rfl⟩
   have e5 : (Sh.opsAt (Sh.widthsOf c.toNat) (b.drop (i + 1))).take ((wI c.toNat).map V.int).length = Sh.opsAt (Sh.widthsOf c.toNat) (b.drop (i + 1)) := by
    refine List.take_of_length_le ?_
    rw [Sh.opsAt_len,List.length_map]
    unfold wI
    rw [List.length_map]
    exact Nat.le_refl _
   rw [e5] at hl2
   have fin : ∀ (H3 : Hp) (v4 v5 : Option V),Same H H3 → H3 l = some (.lst ((Sh.numsOf c.toNat (Sh.opsAt (Sh.widthsOf c.toNat) (b.drop (i + 1)))).map V.int)) →
     tRet (tMake C (spInit C) [] E0 (tCons (tVar 2) (tCons (tVar 3) tNil))) { nx := fun _ H' => Q .non H',rt := Q } [some (.ref a),some (.int (i : Int)),some (.int (c.toNat : Int)),some (.ref l),v4,v5] H3 := fun H3 v4 v5 s3 hl3 => by
    refine ⟨_,rfl,_,rfl,fun x dx nx ndx nex => ?_⟩
    refine ⟨x,dx,l,c.toNat,rfl,h2',upd_same,rfl,?_⟩
    rw [upd_upd]
    have nlx : l ≠ x := ne_of_none hl3 nx
    have nldx : l ≠ dx := ne_of_none hl3 ndx
    refine kS' _ x dx l (fun q o e => ?_) (s3.free nx) hl0 upd_same ?_
    ·rw [upd_ne (ne_of_none (s3 _ _ e) nx),upd_ne (ne_of_none (s3 _ _ e) ndx)]
     exact s3 _ _ e
    ·rw [upd_ne nlx,upd_ne nldx]; exact hl3
   refine ⟨_,rfl,rfl,_,rfl,?_⟩
   rw [decV]
   refine ite2 (fun h4 => ?_) (fun h4 => ?_)
   ·have hc1 : c.toNat = 1 := by have := of_decide_eq_true h4; omega
    have ew : Sh.widthsOf c.toNat = [8] := by rw [hc1]; rfl
    have eo : Sh.opsAt (Sh.widthsOf c.toNat) (b.drop (i + 1)) = [Ls.ofBytes ((b.drop (i + 1)).take 8)] := by rw [ew]; rfl
    have en : Sh.numsOf c.toNat (Sh.opsAt (Sh.widthsOf c.toNat) (b.drop (i + 1))) = [Ls.signed (Ls.ofBytes ((b.drop (i + 1)).take 8))] := by rw [eo,hc1,nums_push]; rfl
    rw [eo] at hl2
    refine ⟨_,rfl,l,_,_,_,rfl,rfl,SqL.of hl2,atI_nat (j := 0) rfl,_,_,rfl,rfl,_,rfl,?_⟩
    refine ite2 (fun h5 => ?_) (fun h5 => ?_)
    ·refine ⟨_,rfl,l,_,_,_,rfl,rfl,SqL.of hl2,atI_nat (j := 0) rfl,_,_,rfl,rfl,_,rfl,l,_,_,0,rfl,rfl,hl2,rfl,?_⟩
     refine fin _ _ _ (Same.upd' s2 hl0) ?_
     rw [upd_same,en]
     have : Ls.signed (Ls.ofBytes ((b.drop (i + 1)).take 8)) = (Ls.ofBytes ((b.drop (i + 1)).take 8) : Int) - 18446744073709551616 := by
      unfold Ls.signed
      rw [if_neg (by have := of_decide_eq_true h5; omega)]
     rw [this]; rfl
    ·refine fin _ _ _ s2 ?_
     rw [hl2,en]
     have : Ls.signed (Ls.ofBytes ((b.drop (i + 1)).take 8)) = (Ls.ofBytes ((b.drop (i + 1)).take 8) : Int) := by
      unfold Ls.signed
      rw [if_pos (by
       by_cases q : Ls.ofBytes ((b.drop (i + 1)).take 8) < 9223372036854775808
       ·exact q
       ·exact absurd (decide_eq_true (by omega)) h5)]
     rw [this]; rfl
   ·refine fin _ _ _ s2 ?_
    have hc1 : c.toNat ≠ 1 := fun e => h4 (decide_eq_true (by omega))
    rw [hl2,nums_other hc1,List.map_map]
    rfl
end
end Ins
namespace Mc
open Ls Ar
structure Sd where
 m : M
 q : List Int
 out : List Int
def sRoom (m : M) : Nat := if m.stack.length = 1024 then 5 else 7
def sOne (m : M) : Nat := if m.stack = [] then 4 else 7
def hasOwn (m : M) (i : Nat) : Bool := match m.frames with
 | [] => false
 | f :: _ => decide (i < f.2.length)
def sLoadl (m : M) (i : Nat) : Nat := if hasOwn m i = true then sRoom m else 4
def sStorel (m : M) (i : Nat) : Nat := if hasOwn m i = true then sOne m else 4
def sOp (m : M) (o : Nat) : Nat := match m.stack with
 | b :: a :: _ => stdP o a b
 | _ => 4
def sCall (m : M) (k : Nat) : Nat := if m.stack.length < k then 4 else if m.frames.length = 200 then 3 else 7
def sRet (m : M) : Nat := if m.frames = [] then 4 else 7
def sGet (m : M) (q : List Int) : Nat := if m.stack.length = 1024 then 5 else if q = [] then 6 else 7
def stdN (n : Nat) (ops : List Nat) (m : M) (q : List Int) : Nat := match n with
 | 0 => 0
 | 1 => sRoom m
 | 2 => sRoom m
 | 3 => sOne m
 | 4 => sLoadl m (ops.getD 0 0)
 | 5 => sStorel m (ops.getD 0 0)
 | 6 => sOp m 0
 | 7 => sOp m 1
 | 8 => sOp m 2
 | 9 => sOp m 3
 | 10 => sOp m 4
 | 11 => sOp m 5
 | 12 => sOp m 6
 | 13 => sOne m
 | 14 => 7
 | 15 => sOne m
 | 16 => sCall m (ops.getD 1 0)
 | 17 => sRet m
 | 18 => sOne m
 | 19 => sGet m q
 | _ => 7
def dPush (z : Int) (s : Sd) : Sd := { s with m := { s.m with stack := z :: s.m.stack } }
def dStore (g : Nat) (s : Sd) : Sd := { s with m := { s.m with stack := s.m.stack.tail,vars := Ls.set s.m.vars g (s.m.stack.headD 0) } }
def topOwn (m : M) : List Int := match m.frames with
 | [] => []
 | f :: _ => f.2
def dStorel (i : Nat) (s : Sd) : Sd := { s with m := { s.m with stack := s.m.stack.tail,frames := match s.m.frames with
 | [] => []
 | f :: fs => (f.1,f.2.set i (s.m.stack.headD 0)) :: fs } }
def dOp (o : Nat) (s : Sd) : Sd := { s with m := { s.m with stack := resP o (s.m.stack.getD 1 0) (s.m.stack.getD 0 0) :: s.m.stack.drop 2 } }
def invP (a : Int) : Int := if a = 0 then 1 else 0
def dNot (s : Sd) : Sd := { s with m := { s.m with stack := invP (s.m.stack.headD 0) :: s.m.stack.tail } }
def dJmp (a : Nat) (s : Sd) : Sd := { s with m := { s.m with pc := a } }
def dJz (a : Nat) (s : Sd) : Sd := { s with m := { s.m with stack := s.m.stack.tail,pc := if s.m.stack.headD 0 = 0 then a else s.m.pc } }
def dCall (a k : Nat) (s : Sd) : Sd := { s with m := { s.m with stack := s.m.stack.drop k,pc := a,frames := (s.m.pc,(s.m.stack.take k).reverse) :: s.m.frames } }
def dRet (s : Sd) : Sd := { s with m := { s.m with pc := (s.m.frames.headD (0,[])).1,frames := s.m.frames.tail } }
def dPut (s : Sd) : Sd := { s with m := { s.m with stack := s.m.stack.tail },out := s.out ++ [s.m.stack.headD 0] }
def dGet (s : Sd) : Sd := { s with m := { s.m with stack := s.q.headD 0 :: s.m.stack },q := s.q.tail }
def dLine (l : Nat) (s : Sd) : Sd := { s with m := { s.m with line := l } }
def doN (n : Nat) (ops : List Nat) (s : Sd) : Sd := match n with
 | 0 => s
 | 1 => dPush (signed (ops.getD 0 0)) s
 | 2 => dPush (s.m.vars (ops.getD 0 0)) s
 | 3 => dStore (ops.getD 0 0) s
 | 4 => dPush ((topOwn s.m).getD (ops.getD 0 0) 0) s
 | 5 => dStorel (ops.getD 0 0) s
 | 6 => dOp 0 s
 | 7 => dOp 1 s
 | 8 => dOp 2 s
 | 9 => dOp 3 s
 | 10 => dOp 4 s
 | 11 => dOp 5 s
 | 12 => dOp 6 s
 | 13 => dNot s
 | 14 => dJmp (ops.getD 0 0) s
 | 15 => dJz (ops.getD 0 0) s
 | 16 => dCall (ops.getD 0 0) (ops.getD 1 0) s
 | 17 => dRet s
 | 18 => dPut s
 | 19 => dGet s
 | _ => dLine (ops.getD 0 0) s
structure Inv (m : M) : Prop where
 sl : m.stack.length ≤ 1024
 fl : m.frames.length ≤ 200
 sr : ∀ z ∈ m.stack,inRange z = true
 vr : ∀ i,inRange (m.vars i) = true
 fr : ∀ f ∈ m.frames,∀ z ∈ f.2,inRange z = true
 fo : ∀ f ∈ m.frames,f.2.length ≤ 1024
inductive Wf : Nat → List Nat → Prop
 | no {n : Nat} (h : n = 0 ∨ (6 ≤ n ∧ n ≤ 13) ∨ n = 17 ∨ n = 18 ∨ n = 19) : Wf n []
 | push {x : Nat} (h : x < 18446744073709551616) : Wf 1 [x]
 | one {n x : Nat} (h : 2 ≤ n ∧ n ≤ 5) (g : x < 256) : Wf n [x]
 | four {n x : Nat} (h : n = 14 ∨ n = 15 ∨ n = 20) : Wf n [x]
 | call {x y : Nat} (h : y < 256) : Wf 16 [x,y]
theorem wf_of {b : Bytes} {i n size : Nat} {ops : List Nat} (h : decode b i = some (n,ops,size)) : Wf n ops ∧ n < 21 ∧ size = 1 + (Sh.widthsOf n).sum := by
 cases e : b[i]? with
 | none =>
  rw [Sh.decode_end (by simpa using e)] at h; cases h
 | some c =>
  rw [Sh.decode_at e] at h
  by_cases g : c.toNat < 21 ∧ i + 1 + (Sh.widthsOf c.toNat).sum ≤ b.length
  ·rw [if_pos g] at h
   have h := Option.some.inj h
   injection h with h1 h2
   injection h2 with h2 h3
   subst h1
   refine ⟨?_,g.1,h3.symm⟩
   rw [← h2]
   have hb : ∀ (r : Bytes) (w : Nat),ofBytes (r.take w) < 256 ^ w := fun r w => by
    refine Nat.lt_of_lt_of_le (Sh.ofBytes_lt _) (Nat.pow_le_pow_right (by decide) ?_)
    rw [List.length_take]; omega
   have hn := g.1
   generalize c.toNat = n at hn
   generalize b.drop (i + 1) = r
   match n,hn with
   | 0,_ => exact .no (by omega)
   | 1,_ => exact .push (hb r 8)
   | 2,_ => exact .one (by omega) (hb r 1)
   | 3,_ => exact .one (by omega) (hb r 1)
   | 4,_ => exact .one (by omega) (hb r 1)
   | 5,_ => exact .one (by omega) (hb r 1)
   | 6,_ => exact .no (by omega)
   | 7,_ => exact .no (by omega)
   | 8,_ => exact .no (by omega)
   | 9,_ => exact .no (by omega)
   | 10,_ => exact .no (by omega)
   | 11,_ => exact .no (by omega)
   | 12,_ => exact .no (by omega)
   | 13,_ => exact .no (by omega)
   | 14,_ => exact .four (by omega)
   | 15,_ => exact .four (by omega)
   | 16,_ => exact .call (hb (r.drop 4) 1)
   | 17,_ => exact .no (by omega)
   | 18,_ => exact .no (by omega)
   | 19,_ => exact .no (by omega)
   | 20,_ => exact .four (by omega)
   | n + 21,h => exact absurd h (by omega)
  ·rw [if_neg g] at h; cases h
theorem signed_in {x : Nat} (h : x < 18446744073709551616) : inRange (signed x) = true := by
 unfold signed inRange
 by_cases c : x < 9223372036854775808
 ·rw [if_pos c]; simp; omega
 ·rw [if_neg c]; simp; omega
end Mc
namespace Mc
open Ls Ar
inductive Ag (m : M) (q out : List Int) : Bool → Nat → Act M → Sd → Prop
 | done {b : Bool} {s : Sd} : Ag m q out b 0 .done s
 | fault {b : Bool} {k : Nat} {s : Sd} (h : 1 ≤ k ∧ k ≤ 5) : Ag m q out b k (.fault k m.line) s
 | wait {b : Bool} {f : Int → M} {s : Sd} (h : q = []) : Ag m q out b 6 (.get f) s
 | go {m' : M} : Ag m q out false 7 (.go m') ⟨m',q,out⟩
 | got {f : Int → M} {a : Int} {r : List Int} (h : q = a :: r) : Ag m q out false 7 (.get f) ⟨f a,r,out⟩
 | put {v : Int} {m' : M} : Ag m q out true 7 (.put v m') ⟨m',q,out ++ [v]⟩
theorem f3 {m : M} {q out : List Int} {b : Bool} {s : Sd} : Ag m q out b 3 (.fault 3 m.line) s := .fault ⟨by decide,by decide⟩
theorem f4 {m : M} {q out : List Int} {b : Bool} {s : Sd} : Ag m q out b 4 (.fault 4 m.line) s := .fault ⟨by decide,by decide⟩
theorem f5 {m : M} {q out : List Int} {b : Bool} {s : Sd} : Ag m q out b 5 (.fault 5 m.line) s := .fault ⟨by decide,by decide⟩
theorem stdP_is (o : Nat) (a b : Int) : stdP o a b = 7 ∨ (1 ≤ stdP o a b ∧ stdP o a b ≤ 5) := by
 unfold stdP
 split
 ·right; omega
 ·split
  ·left; rfl
  ·right; omega
theorem room_eq (m : M) (inv : Inv m) : (STACK ≤ m.stack.length) ↔ m.stack.length = 1024 := by
 have := inv.sl
 unfold STACK
 omega
theorem op_ag {code : Bytes} {m : M} {q out : List Int} {o size : Nat} (ho : o ≤ 6) (hd : decode code m.pc = some (6 + o,[],size)) (inv : Inv m)
  (e0 : m.stack = [] → mstep code m = .fault 4 m.line) (e1 : ∀ b,m.stack = [b] → mstep code m = .fault 4 m.line)
  (e2 : ∀ b a r,m.stack = b :: a :: r → mstep code m = match arith o a b with
    | .ok z => .go { m with pc := m.pc + size,stack := z :: r }
    | .error k => .fault k m.line) : Ag m q out false (sOp m o) (mstep code m) (dOp o ⟨{ m with pc := m.pc + size },q,out⟩) := by
 unfold sOp dOp
 cases e : m.stack with
 | nil => rw [e0 e]; exact f4
 | cons b t =>
  cases t with
  | nil => rw [e1 b e]; exact f4
  | cons a r =>
   rw [e2 b a r e]
   have ha : inRange a = true := inv.sr a (by rw [e]; simp)
   have hb : inRange b = true := inv.sr b (by rw [e]; simp)
   rw [arith_eq ho ha hb]
   dsimp only [List.getD_cons_zero,List.getD_cons_succ,List.drop_succ_cons,List.drop_zero]
   rcases stdP_is o a b with h | h
   ·rw [if_pos h,h]; exact .go
   ·rw [if_neg (by omega)]; exact .fault h
theorem ag {code : Bytes} {m : M} {q out : List Int} {n size : Nat} {ops : List Nat} (hd : decode code m.pc = some (n,ops,size)) (inv : Inv m) :
  Ag m q out (decide (n = 18)) (stdN n ops m q) (mstep code m) (doN n ops ⟨{ m with pc := m.pc + size },q,out⟩) := by
 have wf := (wf_of hd).1
 have hr := room_eq m inv
 have hc : (CALLS ≤ m.frames.length) ↔ m.frames.length = 200 := by
  have := inv.fl
  unfold CALLS
  omega
 have hop : ∀ o,o ≤ 6 → n = 6 + o → ops = [] → Ag m q out false (sOp m o) (mstep code m) (dOp o ⟨{ m with pc := m.pc + size },q,out⟩) := fun o ho en eo => by
  subst en eo
  refine op_ag ho hd inv (fun e => ?_) (fun b e => ?_) (fun b a r e => ?_)
  all_goals
   unfold mstep
   rw [hd,e]
   match o,ho with
   | 0,_ => rfl
   | 1,_ => rfl
   | 2,_ => rfl
   | 3,_ => rfl
   | 4,_ => rfl
   | 5,_ => rfl
   | 6,_ => rfl
   | o + 7,h => exact absurd h (by omega)
 cases wf with
 | no h =>
  have : n = 0 ∨ n = 6 ∨ n = 7 ∨ n = 8 ∨ n = 9 ∨ n = 10 ∨ n = 11 ∨ n = 12 ∨ n = 13 ∨ n = 17 ∨ n = 18 ∨ n = 19 := by omega
  rcases this with rfl | rfl | rfl | rfl | rfl | rfl | rfl | rfl | rfl | rfl | rfl | rfl
  ·have e : mstep code m = .done := by unfold mstep; rw [hd]; rfl
   rw [e]; exact .done
  ·exact hop 0 (by omega) rfl rfl
  ·exact hop 1 (by omega) rfl rfl
  ·exact hop 2 (by omega) rfl rfl
  ·exact hop 3 (by omega) rfl rfl
  ·exact hop 4 (by omega) rfl rfl
  ·exact hop 5 (by omega) rfl rfl
  ·exact hop 6 (by omega) rfl rfl
  ·show Ag m q out false (sOne m) _ (dNot _)
   unfold sOne dNot
   cases e : m.stack with
   | nil =>
    have e' : mstep code m = .fault 4 m.line := by unfold mstep; rw [hd,e]; rfl
    rw [e']; exact f4
   | cons a r =>
    have e' : mstep code m = .go { m with pc := m.pc + size,stack := (if a = 0 then 1 else 0) :: r } := by unfold mstep; rw [hd,e]; rfl
    rw [e']; exact .go
  ·show Ag m q out false (sRet m) _ (dRet _)
   unfold sRet dRet
   cases e : m.frames with
   | nil =>
    have e' : mstep code m = .fault 4 m.line := by unfold mstep; rw [hd]; dsimp only; rw [e]; rfl
    rw [e']; exact f4
   | cons f fs =>
    have e' : mstep code m = .go { m with pc := f.1,frames := fs } := by unfold mstep; rw [hd]; dsimp only; rw [e]; rfl
    rw [e']; exact .go
  ·show Ag m q out true (sOne m) _ (dPut _)
   unfold sOne dPut
   cases e : m.stack with
   | nil =>
    have e' : mstep code m = .fault 4 m.line := by unfold mstep; rw [hd,e]; rfl
    rw [e']; exact f4
   | cons a r =>
    have e' : mstep code m = .put a { m with pc := m.pc + size,stack := r } := by unfold mstep; rw [hd,e]; rfl
    rw [e']; exact .put
  ·show Ag m q out false (sGet m q) _ (dGet _)
   have e' : mstep code m = if STACK ≤ m.stack.length then .fault 5 m.line else .get fun z => { m with pc := m.pc + size,stack := z :: m.stack } := by unfold mstep; rw [hd]; rfl
   rw [e']
   unfold sGet dGet
   by_cases c : m.stack.length = 1024
   ·rw [if_pos c,if_pos (hr.2 c)]; exact f5
   ·rw [if_neg c,if_neg (fun z => c (hr.1 z))]
    cases q with
    | nil => rw [if_pos rfl]; exact .wait rfl
    | cons a r => rw [if_neg (by simp)]; exact .got (f := fun z => { m with pc := m.pc + size,stack := z :: m.stack }) rfl
 | push h =>
  rename_i x
  show Ag m q out false (sRoom m) _ (dPush (signed x) _)
  have e' : mstep code m = if STACK ≤ m.stack.length then .fault 5 m.line else .go { m with pc := m.pc + size,stack := signed x :: m.stack } := by unfold mstep; rw [hd]; rfl
  rw [e']
  unfold sRoom dPush
  by_cases c : m.stack.length = 1024
  ·rw [if_pos c,if_pos (hr.2 c)]; exact f5
  ·rw [if_neg c,if_neg (fun z => c (hr.1 z))]; exact .go
 | one h g =>
  rename_i x
  have : n = 2 ∨ n = 3 ∨ n = 4 ∨ n = 5 := by omega
  rcases this with rfl | rfl | rfl | rfl
  ·show Ag m q out false (sRoom m) _ (dPush (m.vars x) _)
   have e' : mstep code m = if STACK ≤ m.stack.length then .fault 5 m.line else .go { m with pc := m.pc + size,stack := m.vars x :: m.stack } := by unfold mstep; rw [hd]; rfl
   rw [e']
   unfold sRoom dPush
   by_cases c : m.stack.length = 1024
   ·rw [if_pos c,if_pos (hr.2 c)]; exact f5
   ·rw [if_neg c,if_neg (fun z => c (hr.1 z))]; exact .go
  ·show Ag m q out false (sOne m) _ (dStore x _)
   unfold sOne dStore
   cases e : m.stack with
   | nil =>
    have e' : mstep code m = .fault 4 m.line := by unfold mstep; rw [hd,e]; rfl
    rw [e']; exact f4
   | cons a r =>
    have e' : mstep code m = .go { m with pc := m.pc + size,stack := r,vars := Ls.set m.vars x a } := by unfold mstep; rw [hd,e]; rfl
    rw [e']; exact .go
  ·show Ag m q out false (sLoadl m x) _ (dPush ((topOwn m).getD x 0) _)
   have e' : mstep code m = match (m.frames.head?).bind fun f => f.2[x]? with
    | some z => if STACK ≤ m.stack.length then .fault 5 m.line else .go { m with pc := m.pc + size,stack := z :: m.stack }
    | none => .fault 4 m.line := by unfold mstep; rw [hd]; rfl
   rw [e']
   unfold sLoadl hasOwn topOwn
   cases ef : m.frames with
   | nil => exact f4
   | cons f fs =>
    dsimp only [List.head?_cons,Option.bind_some]
    by_cases c : x < f.2.length
    ·rw [if_pos (decide_eq_true c),List.getElem?_eq_getElem c]
     dsimp only
     unfold sRoom dPush
     rw [List.getD_eq_getElem?_getD,List.getElem?_eq_getElem c]
     by_cases c : m.stack.length = 1024
     ·rw [if_pos c,if_pos (hr.2 c)]; exact f5
     ·rw [if_neg c,if_neg (fun z => c (hr.1 z))]; exact .go
    ·rw [if_neg (by simpa using c),List.getElem?_eq_none (by omega)]
     exact f4
  ·show Ag m q out false (sStorel m x) _ (dStorel x _)
   unfold sStorel sOne hasOwn dStorel
   cases e : m.stack with
   | nil =>
    have e' : mstep code m = .fault 4 m.line := by unfold mstep; rw [hd,e]; rfl
    rw [e']
    cases m.frames with
    | nil => exact f4
    | cons f fs =>
     rw [if_pos rfl,ite_self]
     exact f4
   | cons a r =>
    have e' : mstep code m = (match m.frames with
   | f :: fs => if x < f.2.length then .go { m with pc := m.pc + size,stack := r,frames := (f.1,f.2.set x a) :: fs } else .fault 4 m.line
   | [] => .fault 4 m.line) := by unfold mstep; rw [hd,e]; rfl
    rw [e']
    cases ef : m.frames with
    | nil => exact f4
    | cons f fs =>
     dsimp only
     by_cases c : x < f.2.length
     ·rw [if_pos (decide_eq_true c),if_pos c,if_neg (by simp)]; exact .go
     ·rw [if_neg (by simpa using c),if_neg c]; exact f4
 | four h =>
  rename_i x
  rcases h with rfl | rfl | rfl
  ·have e' : mstep code m = .go { m with pc := x } := by unfold mstep; rw [hd]; rfl
   rw [e']; exact .go
  ·show Ag m q out false (sOne m) _ (dJz x _)
   unfold sOne dJz
   cases e : m.stack with
   | nil =>
    have e' : mstep code m = .fault 4 m.line := by unfold mstep; rw [hd,e]; rfl
    rw [e']; exact f4
   | cons a r =>
    have e' : mstep code m = .go { m with pc := if a = 0 then x else m.pc + size,stack := r } := by unfold mstep; rw [hd,e]; rfl
    rw [e']; exact .go
  ·have e' : mstep code m = .go { m with pc := m.pc + size,line := x } := by unfold mstep; rw [hd]; rfl
   rw [e']; exact .go
 | call h =>
  rename_i x y
  show Ag m q out false (sCall m y) _ (dCall x y _)
  have e' : mstep code m = if m.stack.length < y then .fault 4 m.line else if CALLS ≤ m.frames.length then .fault 3 m.line else .go { m with pc := x,stack := m.stack.drop y,frames := (m.pc + size,(m.stack.take y).reverse) :: m.frames } := by unfold mstep; rw [hd]; rfl
  rw [e']
  unfold sCall dCall
  by_cases c : m.stack.length < y
  ·rw [if_pos c,if_pos c]; exact f4
  ·rw [if_neg c,if_neg c]
   by_cases c2 : m.frames.length = 200
   ·rw [if_pos c2,if_pos (hc.2 c2)]; exact f3
   ·rw [if_neg c2,if_neg (fun z => c2 (hc.1 z))]; exact .go
end Mc
namespace Mc
open Ls Ar
theorem tail_mem {α : Type} {x : α} {l : List α} (h : x ∈ l.tail) : x ∈ l := List.mem_of_mem_tail h
theorem sign_pos {q : List Int} (hq : ∀ z ∈ q,inRange z = true) : inRange (q.headD 0) = true := by
 cases q with
 | nil => rfl
 | cons a r => exact hq a (by simp)
theorem op_in {m : M} {o : Nat} (h : sOp m o = 7) : inRange (resP o (m.stack.getD 1 0) (m.stack.getD 0 0)) = true ∧ ∃ b a r,m.stack = b :: a :: r := by
 unfold sOp at h
 split at h
 ·rename_i b a r e
  rw [e]
  refine ⟨?_,b,a,r,rfl⟩
  show inRange (resP o a b) = true
  unfold stdP at h
  split at h
  ·cases h
  ·split at h
   ·assumption
   ·cases h
 ·cases h
theorem stack_push {m : M} {z : Int} (i : Inv m) (h : m.stack.length ≠ 1024) (hz : inRange z = true) : (z :: m.stack).length ≤ 1024 ∧ ∀ x ∈ z :: m.stack,inRange x = true := by
 have := i.sl
 refine ⟨by simp only [List.length_cons]; omega,fun x hx => ?_⟩
 rcases List.mem_cons.1 hx with rfl | hx
 ·exact hz
 ·exact i.sr x hx
theorem inv_push {s : Sd} {z : Int} (i : Inv s.m) (h : sRoom s.m = 7) (hz : inRange z = true) : Inv (dPush z s).m := by
 have h' : s.m.stack.length ≠ 1024 := fun c => by unfold sRoom at h; rw [if_pos c] at h; cases h
 have := stack_push i h' hz
 exact ⟨this.1,i.fl,this.2,i.vr,i.fr,i.fo⟩
theorem tail_len {l : List Int} (h : l.length ≤ 1024) : l.tail.length ≤ 1024 := by rw [List.length_tail]; omega
theorem inv_op {s : Sd} {o : Nat} (i : Inv s.m) (h : sOp s.m o = 7) : Inv (dOp o s).m := by
 obtain ⟨hz,b,a,r,e⟩ := op_in h
 refine ⟨?_,i.fl,?_,i.vr,i.fr,i.fo⟩
 ·have := i.sl
  show (_ :: s.m.stack.drop 2).length ≤ 1024
  rw [e] at this ⊢
  simp only [List.length_cons,List.drop_succ_cons,List.drop_zero] at this ⊢
  omega
 ·intro x hx
  rcases List.mem_cons.1 hx with rfl | hx
  ·exact hz
  ·exact i.sr x (List.mem_of_mem_drop hx)
theorem own_in {m : M} {x : Nat} (i : Inv m) : inRange ((topOwn m).getD x 0) = true := by
 unfold topOwn
 split
 ·rfl
 ·rename_i f fs e
  rw [List.getD_eq_getElem?_getD]
  cases e' : f.2[x]? with
  | none => rfl
  | some z => exact i.fr f (by rw [e]; simp) z (List.mem_of_getElem? e')
theorem inv_do {n : Nat} {ops : List Nat} {m : M} {q out : List Int} {pc : Nat} (wf : Wf n ops) (i : Inv m) (hq : ∀ z ∈ q,inRange z = true) (h : stdN n ops m q = 7) :
  Inv (doN n ops ⟨{ m with pc := pc },q,out⟩).m ∧ ∀ z ∈ (doN n ops ⟨{ m with pc := pc },q,out⟩).q,inRange z = true := by
 have i' : Inv { m with pc := pc } := ⟨i.sl,i.fl,i.sr,i.vr,i.fr,i.fo⟩
 have j : ∀ s : Sd,s.m = { m with pc := pc } → Inv s.m := fun s e => by rw [e]; exact i'
 cases wf with
 | no g =>
  have : n = 0 ∨ n = 6 ∨ n = 7 ∨ n = 8 ∨ n = 9 ∨ n = 10 ∨ n = 11 ∨ n = 12 ∨ n = 13 ∨ n = 17 ∨ n = 18 ∨ n = 19 := by omega
  rcases this with rfl | rfl | rfl | rfl | rfl | rfl | rfl | rfl | rfl | rfl | rfl | rfl
  ·cases h
  ·exact ⟨inv_op (o := 0) (j ⟨{ m with pc := pc },q,out⟩ rfl) h,hq⟩
  ·exact ⟨inv_op (o := 1) (j ⟨{ m with pc := pc },q,out⟩ rfl) h,hq⟩
  ·exact ⟨inv_op (o := 2) (j ⟨{ m with pc := pc },q,out⟩ rfl) h,hq⟩
  ·exact ⟨inv_op (o := 3) (j ⟨{ m with pc := pc },q,out⟩ rfl) h,hq⟩
  ·exact ⟨inv_op (o := 4) (j ⟨{ m with pc := pc },q,out⟩ rfl) h,hq⟩
  ·exact ⟨inv_op (o := 5) (j ⟨{ m with pc := pc },q,out⟩ rfl) h,hq⟩
  ·exact ⟨inv_op (o := 6) (j ⟨{ m with pc := pc },q,out⟩ rfl) h,hq⟩
  ·refine ⟨⟨?_,i.fl,?_,i.vr,i.fr,i.fo⟩,hq⟩
   ·have := i.sl
    change sOne m = 7 at h
    unfold sOne at h
    show (_ :: m.stack.tail).length ≤ 1024
    cases e : m.stack with
    | nil => exact (by decide : (1 : Nat) ≤ 1024)
    | cons a r => rw [e] at this; exact this
   ·intro x hx
    rcases List.mem_cons.1 hx with rfl | hx
    ·unfold invP; split <;> rfl
    ·exact i.sr x (tail_mem hx)
  ·refine ⟨⟨i.sl,?_,i.sr,i.vr,fun f hf => i.fr f (tail_mem hf),fun f hf => i.fo f (tail_mem hf)⟩,hq⟩
   show m.frames.tail.length ≤ 200
   have := i.fl
   rw [List.length_tail]; omega
  ·exact ⟨⟨tail_len i.sl,i.fl,fun z hz => i.sr z (tail_mem hz),i.vr,i.fr,i.fo⟩,hq⟩
  ·change sGet m q = 7 at h
   have h' : m.stack.length ≠ 1024 := fun c => by unfold sGet at h; rw [if_pos c] at h; cases h
   have := stack_push i h' (sign_pos hq)
   exact ⟨⟨this.1,i.fl,this.2,i.vr,i.fr,i.fo⟩,fun z hz => hq z (tail_mem hz)⟩
 | push g => exact ⟨inv_push (j ⟨{ m with pc := pc },q,out⟩ rfl) h (signed_in g),hq⟩
 | one g g2 =>
  rename_i x
  have : n = 2 ∨ n = 3 ∨ n = 4 ∨ n = 5 := by omega
  rcases this with rfl | rfl | rfl | rfl
  ·exact ⟨inv_push (j ⟨{ m with pc := pc },q,out⟩ rfl) h (i.vr x),hq⟩
  ·refine ⟨⟨tail_len i.sl,i.fl,fun z hz => i.sr z (tail_mem hz),fun k => ?_,i.fr,i.fo⟩,hq⟩
   show inRange (Ls.set m.vars x (m.stack.headD 0) k) = true
   unfold Ls.set
   split
   ·exact sign_pos i.sr
   ·exact i.vr k
  ·refine ⟨inv_push (j ⟨{ m with pc := pc },q,out⟩ rfl) ?_ (own_in i'),hq⟩
   change sLoadl m x = 7 at h
   unfold sLoadl at h
   split at h
   ·exact h
   ·cases h
  ·refine ⟨⟨tail_len i.sl,?_,fun z hz => i.sr z (tail_mem hz),i.vr,?_,?_⟩,hq⟩
   ·show (match m.frames with
     | [] => []
     | f :: fs => (f.1,f.2.set x (m.stack.headD 0)) :: fs).length ≤ 200
    have := i.fl
    cases e : m.frames with
    | nil => exact (by decide : (0 : Nat) ≤ 200)
    | cons f fs => rw [e] at this; exact this
   ·show ∀ f ∈ (match m.frames with
     | [] => []
     | f :: fs => (f.1,f.2.set x (m.stack.headD 0)) :: fs),∀ z ∈ f.2,inRange z = true
    have := i.fr
    cases e : m.frames with
    | nil => intro f hf; cases hf
    | cons f fs =>
     rw [e] at this
     intro u hu z hz
     rcases List.mem_cons.1 hu with rfl | hu
     ·rcases List.mem_or_eq_of_mem_set hz with c | c
      ·exact this f (by simp) z c
      ·rw [c]; exact sign_pos i.sr
     ·exact this u (List.mem_cons_of_mem _ hu) z hz
   ·show ∀ f ∈ (match m.frames with
     | [] => []
     | f :: fs => (f.1,f.2.set x (m.stack.headD 0)) :: fs),f.2.length ≤ 1024
    have := i.fo
    cases e : m.frames with
    | nil => intro f hf; cases hf
    | cons f fs =>
     rw [e] at this
     intro u hu
     rcases List.mem_cons.1 hu with rfl | hu
     ·show (f.2.set x _).length ≤ 1024
      rw [List.length_set]
      exact this f (by simp)
     ·exact this u (List.mem_cons_of_mem _ hu)
 | four g =>
  rcases g with rfl | rfl | rfl
  ·exact ⟨⟨i.sl,i.fl,i.sr,i.vr,i.fr,i.fo⟩,hq⟩
  ·exact ⟨⟨tail_len i.sl,i.fl,fun z hz => i.sr z (tail_mem hz),i.vr,i.fr,i.fo⟩,hq⟩
  ·exact ⟨⟨i.sl,i.fl,i.sr,i.vr,i.fr,i.fo⟩,hq⟩
 | call g =>
  rename_i x y
  change sCall m y = 7 at h
  have h2 : m.frames.length ≠ 200 := fun c => by
   unfold sCall at h
   split at h
   ·cases h
   ·first | (rw [if_pos c] at h; cases h) | cases h
  refine ⟨⟨?_,?_,fun z hz => i.sr z (List.mem_of_mem_drop hz),i.vr,?_,?_⟩,hq⟩
  ·show (m.stack.drop y).length ≤ 1024
   have := i.sl
   rw [List.length_drop]; omega
  ·show (_ :: m.frames).length ≤ 200
   have := i.fl
   rw [List.length_cons]; omega
  ·intro f hf z hz
   rcases List.mem_cons.1 hf with rfl | hf
   ·exact i.sr z (List.mem_of_mem_take (List.mem_reverse.1 hz))
   ·exact i.fr f hf z hz
  ·intro f hf
   rcases List.mem_cons.1 hf with rfl | hf
   ·show (m.stack.take y).reverse.length ≤ 1024
    have := i.sl
    rw [List.length_reverse,List.length_take]; omega
   ·exact i.fo f hf
def stdM (code : Bytes) (m : M) (q : List Int) : Nat := match decode code m.pc with
 | none => 4
 | some (n,ops,_) => stdN n ops m q
def goP (code : Bytes) : Nat → Nat → Sd → Sd
 | 0,_,s => s
 | k + 1,cap,s => match decode code s.m.pc with
  | none => s
  | some (n,ops,size) => if stdN n ops s.m s.q ≠ 7 then s else if n = 18 ∧ s.out.length = cap then s else goP code k cap (doN n ops ⟨{ s.m with pc := s.m.pc + size },s.q,s.out⟩)
theorem wild {code : Bytes} {m : M} (h : decode code m.pc = none) : mstep code m = .fault 4 m.line := by unfold mstep; rw [h]
theorem go_eq {code : Bytes} {cap : Nat} : ∀ (k : Nat) (m : M) (q out : List Int),Inv m → (∀ z ∈ q,inRange z = true) → out.length ≤ cap →
  let r := Ls.go code k (cap - out.length) m q
  goP code k cap ⟨m,q,out⟩ = ⟨r.1,r.2.1,out ++ r.2.2⟩ ∧ Inv r.1 ∧ (∀ z ∈ r.2.1,inRange z = true) ∧ r.2.1.length ≤ q.length ∧ r.2.2.length ≤ k
 | 0,m,q,out,i,hq,_ => by
  refine ⟨?_,i,hq,Nat.le_refl _,Nat.le_refl _⟩
  show (⟨m,q,out⟩ : Sd) = ⟨m,q,out ++ []⟩
  rw [List.append_nil]
 | k + 1,m,q,out,i,hq,ho => by
  have stay : ∀ r,r = (m,q,([] : List Int)) → (⟨m,q,out⟩ : Sd) = ⟨r.1,r.2.1,out ++ r.2.2⟩ ∧ Inv r.1 ∧ (∀ z ∈ r.2.1,inRange z = true) ∧ r.2.1.length ≤ q.length ∧ r.2.2.length ≤ k + 1 := fun r e => by
   subst e
   exact ⟨by rw [List.append_nil],i,hq,Nat.le_refl _,Nat.zero_le _⟩
  unfold goP
  cases hd : decode code m.pc with
  | none =>
   refine stay _ ?_
   unfold Ls.go
   rw [wild hd]
  | some x =>
   obtain ⟨n,ops,size⟩ := x
   dsimp only
   have A := ag (q := q) (out := out) hd i
   have wf := (wf_of hd).1
   have iv := fun h => inv_do (out := out) (pc := m.pc + size) wf i hq h
   unfold Ls.go
   revert A iv
   generalize stdN n ops m q = st
   generalize doN n ops ⟨{ m with pc := m.pc + size },q,out⟩ = s'
   generalize eb : decide (n = 18) = b
   generalize mstep code m = a
   intro A iv
   cases A with
   | done => rw [if_pos (by decide)]; exact stay _ rfl
   | fault h => rw [if_pos (by omega)]; exact stay _ rfl
   | wait h => subst h; rw [if_pos (by decide)]; exact stay _ rfl
   | go =>
    rename_i m'
    have hn : n ≠ 18 := of_decide_eq_false eb
    rw [if_neg (by decide),if_neg (fun c => hn c.1)]
    have := go_eq (code := code) k m' q out (iv rfl).1 hq ho
    exact ⟨this.1,this.2.1,this.2.2.1,this.2.2.2.1,Nat.le_succ_of_le this.2.2.2.2⟩
   | got h =>
    rename_i f a r
    subst h
    have hn : n ≠ 18 := of_decide_eq_false eb
    rw [if_neg (by decide),if_neg (fun c => hn c.1)]
    have := go_eq (code := code) k (f a) r out (iv rfl).1 (iv rfl).2 ho
    exact ⟨this.1,this.2.1,this.2.2.1,Nat.le_succ_of_le this.2.2.2.1,Nat.le_succ_of_le this.2.2.2.2⟩
   | put =>
    rename_i v m'
    have hn : n = 18 := of_decide_eq_true eb
    rw [if_neg (by decide)]
    by_cases c : out.length = cap
    ·rw [if_pos ⟨hn,c⟩]
     dsimp only
     rw [if_pos (by omega)]
     exact stay _ rfl
    ·rw [if_neg (fun z => c z.2)]
     dsimp only
     rw [if_neg (by omega)]
     have := go_eq (code := code) (cap := cap) k m' q (out ++ [v]) (iv rfl).1 hq (by rw [List.length_append,List.length_singleton]; omega)
     rw [List.length_append,List.length_singleton,show cap - (out.length + 1) = cap - out.length - 1 by omega] at this
     dsimp only at this
     rw [List.append_assoc] at this
     exact ⟨this.1,this.2.1,this.2.2.1,this.2.2.2.1,Nat.succ_le_succ this.2.2.2.2⟩
def stA (q : List Int) (a : Act M) : Nat × Nat := match a with
 | .done => (0,0)
 | .fault k l => (k,l)
 | .get _ => if q = [] then (6,0) else (7,0)
 | _ => (7,0)
theorem ag_state {m : M} {q : List Int} {b : Bool} {st : Nat} {a : Act M} {s' : Sd} (A : Ag m q [] b st a s') : stA q a = (st,if 1 ≤ st ∧ st ≤ 5 then m.line else 0) := by
 cases A with
 | done => rfl
 | fault h => rw [if_pos h]; rfl
 | wait h => subst h; rfl
 | go => rfl
 | got h => subst h; rfl
 | put => rfl
theorem stdM_some {code : Bytes} {m : M} {q : List Int} {n size : Nat} {ops : List Nat} (hd : decode code m.pc = some (n,ops,size)) : stdM code m q = stdN n ops m q := by unfold stdM; rw [hd]
theorem stdM_none {code : Bytes} {m : M} {q : List Int} (hd : decode code m.pc = none) : stdM code m q = 4 := by unfold stdM; rw [hd]
theorem state_eq {code : Bytes} {m : M} {q : List Int} (i : Inv m) : stateOf code m q = (stdM code m q,if 1 ≤ stdM code m q ∧ stdM code m q ≤ 5 then m.line else 0) := by
 unfold stateOf
 cases hd : decode code m.pc with
 | none => rw [stdM_none hd,wild hd]; rfl
 | some x =>
  obtain ⟨n,ops,size⟩ := x
  rw [stdM_some hd]
  exact ag_state (ag (q := q) (out := []) hd i)
theorem inv_init : Inv M.init := ⟨by decide,by decide,fun z h => (nomatch h),fun i => rfl,fun f h => (nomatch h),fun f h => (nomatch h)⟩
end Mc
namespace Mc
open Ls Ar
inductive CallIs : List Int → List (List Int) → List Int → Prop
 | load {b t : List Int} : CallIs (4 :: (b.length : Int) :: (b ++ t)) [[4],b] t
 | give {b t : List Int} : CallIs (5 :: (b.length : Int) :: (b ++ t)) [[5],b] t
 | go {n c : Int} {t : List Int} : CallIs (6 :: n :: c :: t) [[6,n,c]] t
 | state {t : List Int} : CallIs (7 :: t) [[7]] t
theorem row_is {r x t : List Int} (h : PyFlat.row r = some (x,t)) : r = (x.length : Int) :: (x ++ t) := by
 cases r with
 | nil => cases h
 | cons n r =>
  unfold PyFlat.row at h
  dsimp only at h
  by_cases c : 0 ≤ n ∧ n.toNat ≤ r.length
  ·rw [if_pos c] at h
   have h := Option.some.inj h
   injection h with h1 h2
   subst h1 h2
   rw [List.take_append_drop,List.length_take,Nat.min_eq_left c.2]
   congr 1
   omega
  ·rw [if_neg c] at h; cases h
theorem call_is {l t : List Int} {c : List (List Int)} (h : PyFlat.call PyWqaywc.shape l = some (c,t)) : CallIs l c t ∧ PyWqaywc.whole c = c := by
 cases l with
 | nil => cases h
 | cons p r =>
  unfold PyFlat.call at h
  unfold PyWqaywc.shape at h
  dsimp only at h
  by_cases h4 : p = 4
  ·subst h4
   rw [if_pos rfl] at h
   dsimp only at h
   rw [if_neg (by omega),List.drop_zero,List.take_zero] at h
   unfold PyFlat.rows at h
   cases e : PyFlat.row r with
   | none => rw [e] at h; cases h
   | some x =>
    obtain ⟨x,u⟩ := x
    rw [e] at h
    unfold PyFlat.rows at h
    cases h
    rw [row_is e]
    exact ⟨.load,rfl⟩
  ·rw [if_neg h4] at h
   by_cases h5 : p = 5
   ·subst h5
    rw [if_pos rfl] at h
    dsimp only at h
    rw [if_neg (by omega),List.drop_zero,List.take_zero] at h
    unfold PyFlat.rows at h
    cases e : PyFlat.row r with
    | none => rw [e] at h; cases h
    | some x =>
     obtain ⟨x,u⟩ := x
     rw [e] at h
     unfold PyFlat.rows at h
     cases h
     rw [row_is e]
     exact ⟨.give,rfl⟩
   ·rw [if_neg h5] at h
    by_cases h6 : p = 6
    ·subst h6
     rw [if_pos rfl] at h
     dsimp only at h
     cases r with
     | nil => cases h
     | cons n r =>
      cases r with
      | nil => cases h
      | cons k r =>
       rw [if_neg (by simp)] at h
       unfold PyFlat.rows at h
       cases h
       exact ⟨.go,rfl⟩
    ·rw [if_neg h6] at h
     by_cases h7 : p = 7
     ·subst h7
      rw [if_pos rfl] at h
      dsimp only at h
      rw [if_neg (by omega),List.drop_zero,List.take_zero] at h
      unfold PyFlat.rows at h
      cases h
      exact ⟨.state,rfl⟩
     ·rw [if_neg h7] at h
      cases h
theorem calls_is : ∀ {f : Nat} {l : List Int} {cs : List (List (List Int))},PyFlat.calls PyWqaywc.shape f l = some cs → l ≠ [] → ∃ c t cs' f',cs = c :: cs' ∧ PyFlat.calls PyWqaywc.shape f' t = some cs' ∧ CallIs l c t ∧ PyWqaywc.whole c = c
 | 0,[],cs,h,hl => absurd rfl hl
 | 0,_ :: _,cs,h,hl => by cases h
 | f + 1,[],cs,h,hl => absurd rfl hl
 | f + 1,p :: r,cs,h,hl => by
  unfold PyFlat.calls at h
  cases e : PyFlat.call PyWqaywc.shape (p :: r) with
  | none => rw [e] at h; cases h
  | some x =>
   obtain ⟨c,t⟩ := x
   rw [e] at h
   dsimp only at h
   cases e2 : PyFlat.calls PyWqaywc.shape f t with
   | none => rw [e2] at h; cases h
   | some cs' =>
    rw [e2] at h
    cases h
    exact ⟨c,t,cs',f,rfl,e2,call_is e⟩
theorem calls_nil {f : Nat} {cs : List (List (List Int))} (h : PyFlat.calls PyWqaywc.shape f [] = some cs) : cs = [] := by
 unfold PyFlat.calls at h
 cases h; rfl
theorem whole_map : ∀ {f : Nat} {l : List Int} {cs : List (List (List Int))},PyFlat.calls PyWqaywc.shape f l = some cs → cs.map PyWqaywc.whole = cs
 | f,[],cs,h => by rw [calls_nil h]; rfl
 | 0,_ :: _,cs,h => by cases h
 | f + 1,p :: r,cs,h => by
  unfold PyFlat.calls at h
  cases e : PyFlat.call PyWqaywc.shape (p :: r) with
  | none => rw [e] at h; cases h
  | some x =>
   obtain ⟨c,t⟩ := x
   rw [e] at h
   dsimp only at h
   cases e2 : PyFlat.calls PyWqaywc.shape f t with
   | none => rw [e2] at h; cases h
   | some cs' =>
    rw [e2] at h
    cases h
    rw [List.map_cons,(call_is e).2,whole_map e2]
theorem answers_is {l : List Int} (h : PyWqaywc.answers_asked l = true) : ∃ cs,PyFlat.calls PyWqaywc.shape l.length l = some cs ∧ cs.length ≤ 300 ∧ (∀ c ∈ cs,LsNeutral.asked1 c = true) ∧ PyWqaywc.answers l = PyFlat.told (PyFlat.played LsNeutral.step Ls.start cs) := by
 unfold PyWqaywc.answers_asked PyWqaywc.calls at h
 unfold PyWqaywc.answers PyWqaywc.calls
 cases e : PyFlat.calls PyWqaywc.shape l.length l with
 | none => rw [e] at h; cases h
 | some cs =>
  rw [e] at h
  dsimp only at h ⊢
  rw [whole_map e] at h ⊢
  simp only [Bool.and_eq_true] at h
  refine ⟨cs,rfl,of_decide_eq_true h.1,fun c hc => ?_,rfl⟩
  exact List.all_eq_true.mp h.2 c hc
def Dk : Ls.State → Prop
 | none => True
 | some x => Inv x.m ∧ (∀ z ∈ x.queue,inRange z = true) ∧ x.code.length ≤ 16000 ∧ x.queue.length ≤ 4096
theorem step_load (s : Ls.State) (b : List Int) : LsNeutral.step s [[4],b] = (if 262208 < (LsNeutral.text b).length then s else some ⟨LsNeutral.text b,M.init,[]⟩,[if 262208 < (LsNeutral.text b).length then -1 else 0]) := by
 show (let r := Ls.step s (.load (LsNeutral.text b)); (r.1,LsNeutral.told r.2)) = _
 unfold Ls.step Ls.asked CODE
 dsimp only
 rw [if_neg (by decide)]
 split <;> rfl
theorem step_give (s : Ls.State) (g : List Int) : LsNeutral.step s [[5],g] = (if g.all inRange = false then (s,[-3]) else match s with
  | none => (s,[-8])
  | some x => if x.queue.length + g.length ≤ 4096 then (some { x with queue := x.queue ++ g },[0]) else (s,[-1])) := by
 show (let r := Ls.step s (.give g); (r.1,LsNeutral.told r.2)) = _
 unfold Ls.step Ls.asked QUEUE
 dsimp only
 by_cases c : g.all inRange = false
 ·rw [if_pos c,if_pos c]; rfl
 ·rw [if_neg c,if_neg c]
  cases s with
  | none => rfl
  | some x =>
   dsimp only
   split <;> rfl
theorem step_go (s : Ls.State) (n c : Int) : LsNeutral.step s [[6,n,c]] = (if ¬ n.toNat ≤ 20000 then (s,[-3]) else match s with
  | none => (s,[-8])
  | some x => (some ⟨x.code,(Ls.go x.code n.toNat c.toNat x.m x.queue).1,(Ls.go x.code n.toNat c.toNat x.m x.queue).2.1⟩,0 :: (Ls.go x.code n.toNat c.toNat x.m x.queue).2.2)) := by
 show (let r := Ls.step s (.go n.toNat c.toNat); (r.1,LsNeutral.told r.2)) = _
 unfold Ls.step Ls.asked STEPS
 dsimp only
 by_cases h : n.toNat ≤ 20000
 ·rw [if_neg (by simpa using h),if_neg (by simpa using h)]
  cases s <;> rfl
 ·rw [if_pos (by simpa using h),if_pos h]; rfl
theorem step_state (s : Ls.State) : LsNeutral.step s [[7]] = (s,match s with
  | none => [-8]
  | some x => [((stateOf x.code x.m x.queue).1 : Int),((stateOf x.code x.m x.queue).2 : Int)]) := by
 show (let r := Ls.step s .state; (r.1,LsNeutral.told r.2)) = _
 unfold Ls.step Ls.asked
 dsimp only
 rw [if_neg (by decide)]
 cases s <;> rfl
end Mc
namespace Mc
open PySem L2 Ins Ar R
def jn (W U : Hp) : Hp := fun b => (W b).or (U b)
theorem jn_l {W U : Hp} : Same W (jn W U) := fun b o e => by unfold jn; rw [e]; rfl
theorem jn_r {W U H : Hp} (h1 : Same W H) (h2 : Same U H) : Same U (jn W U) := fun b o e => by
 unfold jn
 cases c : W b with
 | none => rw [e]; rfl
 | some x =>
  have := h1 _ _ c
  rw [h2 _ _ e] at this
  cases this; rfl
theorem jn_sub {W U H : Hp} (h1 : Same W H) (h2 : Same U H) : Same (jn W U) H := fun b o e => by
 unfold jn at e
 cases c : W b with
 | none => rw [c] at e; exact h2 _ _ e
 | some x => rw [c] at e; cases e; exact h1 _ _ c
theorem jn_none {W U : Hp} {b : Addr} (h1 : W b = none) (h2 : U b = none) : jn W U b = none := by unfold jn; rw [h1,h2]; rfl
def one1 (z : Addr) (o : HO) : Hp := fun b => if b = z then some o else none
theorem one_at {z : Addr} {o : HO} : one1 z o z = some o := if_pos rfl
theorem one_no {z b : Addr} {o : HO} (h : b ≠ z) : one1 z o b = none := if_neg h
theorem one_sub {z : Addr} {o : HO} {H : Hp} (h : H z = some o) : Same (one1 z o) H := fun b u e => by
 unfold one1 at e
 split at e
 ·rename_i c; cases e; rw [c]; exact h
 ·cases e
theorem insAt_mono {C : Addr} {H H' : Hp} {p : Addr} {n : Nat} {zs : List Int} (h : InsAt C H p n zs) (s : Same H H') : InsAt C H' p n zs := by
 obtain ⟨dx,l,h1,h2⟩ := h
 exact ⟨dx,l,s _ _ h1,s _ _ h2⟩
theorem zero_line : (0 : Nat) ≤ sizeLine := Nat.zero_le _
def mF (ac am : Addr) (pc : V) (as ash acl : Addr) (ln : V) (aw ao : Addr) : List (Str × V) :=
 [("code",.ref ac),("met",.ref am),("at",pc),("stack",.ref as),("shared",.ref ash),("calls",.ref acl),("line",ln),("waiting",.ref aw),("out",.ref ao)]
section
variable {ac am as ash acl aw ao : Addr} {pc ln x : V} {y : Addr}
theorem mF_code : (mF ac am pc as ash acl ln aw ao).lookup ("code" : Str) = some (.ref ac) := rfl
theorem mF_met : (mF ac am pc as ash acl ln aw ao).lookup ("met" : Str) = some (.ref am) := rfl
theorem mF_at : (mF ac am pc as ash acl ln aw ao).lookup ("at" : Str) = some pc := rfl
theorem mF_stack : (mF ac am pc as ash acl ln aw ao).lookup ("stack" : Str) = some (.ref as) := rfl
theorem mF_shared : (mF ac am pc as ash acl ln aw ao).lookup ("shared" : Str) = some (.ref ash) := rfl
theorem mF_calls : (mF ac am pc as ash acl ln aw ao).lookup ("calls" : Str) = some (.ref acl) := rfl
theorem mF_line : (mF ac am pc as ash acl ln aw ao).lookup ("line" : Str) = some ln := rfl
theorem mF_waiting : (mF ac am pc as ash acl ln aw ao).lookup ("waiting" : Str) = some (.ref aw) := rfl
theorem mF_out : (mF ac am pc as ash acl ln aw ao).lookup ("out" : Str) = some (.ref ao) := rfl
theorem mF_here : (mF ac am pc as ash acl ln aw ao).lookup ("instruction_here" : Str) = none := rfl
theorem mF_std : (mF ac am pc as ash acl ln aw ao).lookup ("standing" : Str) = none := rfl
theorem mF_told : (mF ac am pc as ash acl ln aw ao).lookup ("told" : Str) = none := rfl
theorem mF_go : (mF ac am pc as ash acl ln aw ao).lookup ("go" : Str) = none := rfl
theorem mP_at : putF "at" x (mF ac am pc as ash acl ln aw ao) = mF ac am x as ash acl ln aw ao := rfl
theorem mP_out : putF "out" (.ref y) (mF ac am pc as ash acl ln aw ao) = mF ac am pc as ash acl ln aw y := rfl
theorem mF_len : (mF ac am pc as ash acl ln aw ao).length < 1000 := by show 9 < 1000; decide
end
def callF (b : V) (o : Addr) : List (Str × V) := [("back",b),("own",.ref o)]
theorem callF_back {b : V} {o : Addr} : (callF b o).lookup ("back" : Str) = some b := rfl
theorem callF_own {b : V} {o : Addr} : (callF b o).lookup ("own" : Str) = some (.ref o) := rfl
structure Gh where
 p : Addr
 dx : Addr
 ac : Addr
 am : Addr
 as : Addr
 ash : Addr
 acl : Addr
 aw : Addr
 ao : Addr
 cs : List Addr
 os : List Addr
 kvs : List (Key × V)
def Gh.obj (G : Gh) (CM : Addr) (m : Ls.M) : HO := .ins CM G.dx (mF G.ac G.am (.int (m.pc : Int)) G.as G.ash G.acl (.int (m.line : Int)) G.aw G.ao)
def shV (f : Nat → Int) : List V := (List.range 256).map fun i => V.int (f i)
def ownL (f : Nat × List Int) : HO := .lst (f.2.map V.int)
def cells (CM : Addr) (G : Gh) (s : Sd) : List (Addr × HO) :=
 (G.p,G.obj CM s.m) :: (G.as,.lst (s.m.stack.reverse.map V.int)) :: (G.ash,.lst (shV s.m.vars)) :: (G.acl,.lst (G.cs.reverse.map V.ref)) :: (G.aw,.lst (s.q.map V.int)) :: (G.ao,.lst (s.out.map V.int)) :: (G.am,.dK G.kvs) :: G.os.zip (s.m.frames.map ownL)
def MetAt (C : Addr) (W : Hp) (code : Ls.Bytes) (i : Nat) (v : V) : Prop := match Ls.decode code i with
 | none => v = .non
 | some (n,ops,_) => ∃ x,v = .ref x ∧ InsAt C W x n (Sh.numsOf n ops)
theorem MetAt.mono {C : Addr} {W U : Hp} {code : Ls.Bytes} {i : Nat} {v : V} (h : MetAt C W code i v) (s : Same W U) : MetAt C U code i v := by
 unfold MetAt at *
 split at h
 ·exact h
 ·obtain ⟨x,e,hx⟩ := h
  exact ⟨x,e,insAt_mono hx s⟩
structure MaAt (C CC CM : Addr) (W H : Hp) (G : Gh) (code : Ls.Bytes) (s : Sd) (N : Nat) : Prop where
 sub : Same W H
 cd : W G.ac = some (.lst (vB code))
 cl : code.length ≤ 300000
 ce : ∀ x ∈ cells CM G s,H x.1 = some x.2
 nd : ((cells CM G s).map Prod.fst).Nodup
 wn : ∀ a ∈ (cells CM G s).map Prod.fst,W a = none
 ol : G.os.length = s.m.frames.length
 cp : Paired (fun (c : Addr) (x : Addr × Nat) => ∃ dx,W c = some (.ins CC dx (callF (.int (x.2 : Int)) x.1))) G.cs (G.os.zip (s.m.frames.map Prod.fst))
 mt : ∀ (i : Nat) (v : V),valV G.kvs (.inl (i : Int)) = some v → MetAt C W code i v
 kl : G.kvs.length ≤ N
section
variable {C CC CM : Addr} {W H : Hp} {G : Gh} {code : Ls.Bytes} {s : Sd} {N : Nat}
theorem MaAt.ob (I : MaAt C CC CM W H G code s N) : H G.p = some (G.obj CM s.m) := I.ce (G.p,_) (.head _)
theorem MaAt.st (I : MaAt C CC CM W H G code s N) : H G.as = some (.lst (s.m.stack.reverse.map V.int)) := I.ce (G.as,_) (.tail _ (.head _))
theorem MaAt.sh (I : MaAt C CC CM W H G code s N) : H G.ash = some (.lst (shV s.m.vars)) := I.ce (G.ash,_) (.tail _ (.tail _ (.head _)))
theorem MaAt.ca (I : MaAt C CC CM W H G code s N) : H G.acl = some (.lst (G.cs.reverse.map V.ref)) := I.ce (G.acl,_) (.tail _ (.tail _ (.tail _ (.head _))))
theorem MaAt.wa (I : MaAt C CC CM W H G code s N) : H G.aw = some (.lst (s.q.map V.int)) := I.ce (G.aw,_) (.tail _ (.tail _ (.tail _ (.tail _ (.head _)))))
theorem MaAt.ou (I : MaAt C CC CM W H G code s N) : H G.ao = some (.lst (s.out.map V.int)) := I.ce (G.ao,_) (.tail _ (.tail _ (.tail _ (.tail _ (.tail _ (.head _))))))
theorem MaAt.me (I : MaAt C CC CM W H G code s N) : H G.am = some (.dK G.kvs) := I.ce (G.am,_) (.tail _ (.tail _ (.tail _ (.tail _ (.tail _ (.tail _ (.head _)))))))
theorem MaAt.grow (I : MaAt C CC CM W H G code s N) {H' : Hp} (h : Same H H') : MaAt C CC CM W H' G code s N :=
 ⟨I.sub.trans h,I.cd,I.cl,fun x hx => h _ _ (I.ce x hx),I.nd,I.wn,I.ol,I.cp,I.mt,I.kl⟩
theorem put_cells {l : List (Addr × HO)} {H : Hp} (h : ∀ x ∈ l,H x.1 = some x.2) (nd : (l.map Prod.fst).Nodup) {i : Nat} {a : Addr} {o o' : HO} (hi : l[i]? = some (a,o)) : ∀ x ∈ l.set i (a,o'),(upd H a o') x.1 = some x.2 := by
 intro x hx
 obtain ⟨j,hj⟩ := List.mem_iff_getElem?.mp hx
 by_cases c : j = i
 ·subst c
  rw [List.getElem?_set_self (List.getElem?_eq_some_iff.mp hi).1] at hj
  cases hj
  exact upd_same
 ·rw [List.getElem?_set_ne (fun z => c z.symm)] at hj
  have ne : x.1 ≠ a := fun z => by
   have h1 : (l.map Prod.fst)[j]? = some a := by rw [List.getElem?_map,hj,← z]; rfl
   have h2 : (l.map Prod.fst)[i]? = some a := by rw [List.getElem?_map,hi]; rfl
   exact c ((List.getElem?_inj (List.getElem?_eq_some_iff.mp h1).1 nd).mp (h1.trans h2.symm))
  rw [upd_ne ne]
  exact h x (List.mem_of_getElem? hj)
theorem set_keys {l : List (Addr × HO)} {i : Nat} {a : Addr} {o o' : HO} (hi : l[i]? = some (a,o)) : (l.set i (a,o')).map Prod.fst = l.map Prod.fst := by
 rw [List.map_set]
 refine List.ext_getElem? fun j => ?_
 by_cases c : i = j
 ·subst c
  rw [List.getElem?_set_self (by rw [List.length_map]; exact (List.getElem?_eq_some_iff.mp hi).1),List.getElem?_map,hi]; rfl
 ·rw [List.getElem?_set_ne c]
theorem MaAt.put (I : MaAt C CC CM W H G code s N) {i : Nat} {a : Addr} {o o' : HO} {s' : Sd} (hi : (cells CM G s)[i]? = some (a,o)) (he : cells CM G s' = (cells CM G s).set i (a,o')) (hf : s'.m.frames.map Prod.fst = s.m.frames.map Prod.fst) : MaAt C CC CM W (upd H a o') G code s' N := by
 have hk : (cells CM G s').map Prod.fst = (cells CM G s).map Prod.fst := by rw [he]; exact set_keys hi
 have wa : W a = none := I.wn a (List.mem_map.mpr ⟨_,List.mem_of_getElem? hi,rfl⟩)
 have hl : s'.m.frames.length = s.m.frames.length := by have := congrArg List.length hf; rwa [List.length_map,List.length_map] at this
 exact ⟨Same.upd' I.sub wa,I.cd,I.cl,by rw [he]; exact put_cells I.ce I.nd hi,by rw [hk]; exact I.nd,by rw [hk]; exact I.wn,I.ol.trans hl.symm,by rw [hf]; exact I.cp,I.mt,I.kl⟩
theorem MaAt.ext (I : MaAt C CC CM W H G code s N) {W' : Hp} (h : Same W W') (sub : Same W' H) (wn : ∀ a ∈ (cells CM G s).map Prod.fst,W' a = none) : MaAt C CC CM W' H G code s N :=
 ⟨sub,h _ _ I.cd,I.cl,I.ce,I.nd,wn,I.ol,Paired.mapP I.cp fun c x ⟨dx,e⟩ => ⟨dx,h _ _ e⟩,fun i v e => (I.mt i v e).mono h,I.kl⟩
theorem MaAt.some_of (I : MaAt C CC CM W H G code s N) {a : Addr} (ha : a ∈ (cells CM G s).map Prod.fst) : ∃ o,H a = some o := by
 obtain ⟨x,hx,rfl⟩ := List.mem_map.mp ha
 exact ⟨_,I.ce x hx⟩
theorem MaAt.wneg (I : MaAt C CC CM W H G code s N) {U : Hp} (h : ∀ b o,H b = some o → U b = none) : ∀ a ∈ (cells CM G s).map Prod.fst,jn W U a = none := fun a ha => by
 obtain ⟨o,e⟩ := I.some_of ha
 exact jn_none (I.wn a ha) (h a o e)
theorem MaAt.putS (I : MaAt C CC CM W H G code s N) (l : List Int) : MaAt C CC CM W (upd H G.as (.lst (l.reverse.map V.int))) G code { s with m := { s.m with stack := l } } N :=
 I.put (i := 1) rfl rfl rfl
theorem MaAt.putV (I : MaAt C CC CM W H G code s N) (f : Nat → Int) : MaAt C CC CM W (upd H G.ash (.lst (shV f))) G code { s with m := { s.m with vars := f } } N :=
 I.put (i := 2) rfl rfl rfl
theorem MaAt.putQ (I : MaAt C CC CM W H G code s N) (l : List Int) : MaAt C CC CM W (upd H G.aw (.lst (l.map V.int))) G code { s with q := l } N :=
 I.put (i := 4) rfl rfl rfl
theorem MaAt.putO (I : MaAt C CC CM W H G code s N) (l : List Int) : MaAt C CC CM W (upd H G.ao (.lst (l.map V.int))) G code { s with out := l } N :=
 I.put (i := 5) rfl rfl rfl
theorem MaAt.putP (I : MaAt C CC CM W H G code s N) (pc line : Nat) : MaAt C CC CM W (upd H G.p (.ins CM G.dx (mF G.ac G.am (.int (pc : Int)) G.as G.ash G.acl (.int (line : Int)) G.aw G.ao))) G code { s with m := { s.m with pc := pc,line := line } } N :=
 I.put (i := 0) rfl rfl rfl
theorem MaAt.putF (I : MaAt C CC CM W H G code s N) {o : Addr} {os : List Addr} {f : Nat × List Int} {fs : List (Nat × List Int)} (ho : G.os = o :: os) (hf : s.m.frames = f :: fs) (l : List Int) : MaAt C CC CM W (upd H o (.lst (l.map V.int))) G code { s with m := { s.m with frames := (f.1,l) :: fs } } N := by
 refine I.put (i := 7) (o := ownL f) (s' := { s with m := { s.m with frames := (f.1,l) :: fs } }) ?_ ?_ ?_
 ·unfold cells
  rw [ho,hf]
  rfl
 ·unfold cells
  rw [ho,hf]
  rfl
 ·rw [hf]; rfl
theorem MaAt.top (I : MaAt C CC CM W H G code s N) {f : Nat × List Int} {fs : List (Nat × List Int)} (hf : s.m.frames = f :: fs) : ∃ c cs o os dx,G.cs = c :: cs ∧ G.os = o :: os ∧ W c = some (.ins CC dx (callF (.int (f.1 : Int)) o)) ∧ H o = some (.lst (f.2.map V.int)) ∧ os.length = fs.length ∧ Paired (fun (c : Addr) (x : Addr × Nat) => ∃ dx,W c = some (.ins CC dx (callF (.int (x.2 : Int)) x.1))) cs (os.zip (fs.map Prod.fst)) := by
 have hl := I.ol
 have hp := I.cp
 rw [hf] at hl hp
 cases ho : G.os with
 | nil => rw [ho] at hl; cases hl
 | cons o os =>
  rw [ho] at hl hp
  have hp' : Paired (fun (c : Addr) (x : Addr × Nat) => ∃ dx,W c = some (.ins CC dx (callF (.int (x.2 : Int)) x.1))) G.cs ((o,f.1) :: os.zip (fs.map Prod.fst)) := hp
  cases hc : G.cs with
  | nil => rw [hc] at hp'; cases hp'
  | cons c cs =>
   rw [hc] at hp'
   cases hp' with
   | cons r t =>
    obtain ⟨dx,e⟩ := r
    refine ⟨c,cs,o,os,dx,rfl,rfl,e,I.ce (o,ownL f) ?_,by simpa using hl,t⟩
    unfold cells
    rw [ho,hf]
    exact .tail _ (.tail _ (.tail _ (.tail _ (.tail _ (.tail _ (.tail _ (.head _)))))))
theorem MaAt.cs_len (I : MaAt C CC CM W H G code s N) : G.cs.length = s.m.frames.length := by
 rw [Paired.length I.cp,List.length_zip,List.length_map,I.ol,Nat.min_self]
theorem MaAt.pop (I : MaAt C CC CM W H G code s N) {f : Nat × List Int} {fs : List (Nat × List Int)} {c o : Addr} {cs os : List Addr} (hf : s.m.frames = f :: fs) (hc : G.cs = c :: cs) (ho : G.os = o :: os) (hl : os.length = fs.length) (hp : Paired (fun (c : Addr) (x : Addr × Nat) => ∃ dx,W c = some (.ins CC dx (callF (.int (x.2 : Int)) x.1))) cs (os.zip (fs.map Prod.fst))) :
  MaAt C CC CM W (upd H G.acl (.lst (cs.reverse.map V.ref))) { G with cs := cs,os := os } code { s with m := { s.m with frames := fs } } N := by
 have hm : ∀ x ∈ cells CM { G with cs := cs,os := os } { s with m := { s.m with frames := fs } },x ∈ (cells CM G s).set 3 (G.acl,.lst (cs.reverse.map V.ref)) := fun x hx => by
  unfold cells
  rw [ho,hf]
  rcases hx with _ | ⟨_,hx⟩
  ·exact .head _
  rcases hx with _ | ⟨_,hx⟩
  ·exact .tail _ (.head _)
  rcases hx with _ | ⟨_,hx⟩
  ·exact .tail _ (.tail _ (.head _))
  rcases hx with _ | ⟨_,hx⟩
  ·exact .tail _ (.tail _ (.tail _ (.head _)))
  rcases hx with _ | ⟨_,hx⟩
  ·exact .tail _ (.tail _ (.tail _ (.tail _ (.head _))))
  rcases hx with _ | ⟨_,hx⟩
  ·exact .tail _ (.tail _ (.tail _ (.tail _ (.tail _ (.head _)))))
  rcases hx with _ | ⟨_,hx⟩
  ·exact .tail _ (.tail _ (.tail _ (.tail _ (.tail _ (.tail _ (.head _))))))
  ·exact .tail _ (.tail _ (.tail _ (.tail _ (.tail _ (.tail _ (.tail _ (.tail _ hx)))))))
 have h3 : (cells CM G s)[3]? = some (G.acl,.lst (G.cs.reverse.map V.ref)) := rfl
 have wa : W G.acl = none := I.wn _ (List.mem_map.mpr ⟨_,List.mem_of_getElem? h3,rfl⟩)
 have nd := I.nd
 have wn := I.wn
 unfold cells at nd wn
 rw [ho,hf] at nd wn
 refine ⟨Same.upd' I.sub wa,I.cd,I.cl,fun x hx => put_cells I.ce I.nd h3 x (hm x hx),?_,?_,hl,hp,I.mt,I.kl⟩
 ·refine List.Nodup.sublist ?_ nd
  exact .cons₂ _ (.cons₂ _ (.cons₂ _ (.cons₂ _ (.cons₂ _ (.cons₂ _ (.cons₂ _ (.cons _ (List.Sublist.refl _))))))))
 ·intro a ha
  refine wn a (List.Sublist.subset ?_ ha)
  exact .cons₂ _ (.cons₂ _ (.cons₂ _ (.cons₂ _ (.cons₂ _ (.cons₂ _ (.cons₂ _ (.cons _ (List.Sublist.refl _))))))))
theorem MaAt.push (I : MaAt C CC CM W H G code s N) {c dx o : Addr} {l : List Int} {pc : Nat} (hc : H c = some (.ins CC dx (callF (.int (pc : Int)) o))) (ho : H o = some (.lst (l.map V.int))) (nc : c ∉ (cells CM G s).map Prod.fst) (no : o ∉ (cells CM G s).map Prod.fst) (wo : W o = none) (noc : o ≠ c) :
  MaAt C CC CM (jn W (one1 c (.ins CC dx (callF (.int (pc : Int)) o)))) (upd H G.acl (.lst ((c :: G.cs).reverse.map V.ref))) { G with cs := c :: G.cs,os := o :: G.os } code { s with m := { s.m with frames := (pc,l) :: s.m.frames } } N := by
 have h3 : (cells CM G s)[3]? = some (G.acl,.lst (G.cs.reverse.map V.ref)) := rfl
 have m3 : G.acl ∈ (cells CM G s).map Prod.fst := List.mem_map.mpr ⟨_,List.mem_of_getElem? h3,rfl⟩
 have wa : W G.acl = none := I.wn _ m3
 have sj : Same (jn W (one1 c (.ins CC dx (callF (.int (pc : Int)) o)))) H := jn_sub I.sub (one_sub hc)
 have nac : G.acl ≠ c := fun z => nc (z ▸ m3)
 have nao : G.acl ≠ o := fun z => no (z ▸ m3)
 have wj : jn W (one1 c (.ins CC dx (callF (.int (pc : Int)) o))) G.acl = none := jn_none wa (one_no nac)
 have ek : (cells CM { G with cs := c :: G.cs,os := o :: G.os } { s with m := { s.m with frames := (pc,l) :: s.m.frames } }).map Prod.fst = G.p :: G.as :: G.ash :: G.acl :: G.aw :: G.ao :: G.am :: o :: (G.os.zip (s.m.frames.map ownL)).map Prod.fst := rfl
 have ek0 : (cells CM G s).map Prod.fst = G.p :: G.as :: G.ash :: G.acl :: G.aw :: G.ao :: G.am :: (G.os.zip (s.m.frames.map ownL)).map Prod.fst := rfl
 have pm : (G.p :: G.as :: G.ash :: G.acl :: G.aw :: G.ao :: G.am :: o :: (G.os.zip (s.m.frames.map ownL)).map Prod.fst).Perm (o :: (cells CM G s).map Prod.fst) := by
  rw [ek0]
  exact List.perm_middle (l₁ := [G.p,G.as,G.ash,G.acl,G.aw,G.ao,G.am])
 refine ⟨Same.upd' sj wj,jn_l _ _ I.cd,I.cl,?_,?_,?_,by show (o :: G.os).length = ((pc,l) :: s.m.frames).length; rw [List.length_cons,List.length_cons,I.ol],?_,fun i v e => (I.mt i v e).mono jn_l,I.kl⟩
 ·intro x hx
  have key := put_cells (o' := .lst ((c :: G.cs).reverse.map V.ref)) I.ce I.nd h3
  rcases hx with _ | ⟨_,hx⟩
  ·exact key _ (.head _)
  rcases hx with _ | ⟨_,hx⟩
  ·exact key _ (.tail _ (.head _))
  rcases hx with _ | ⟨_,hx⟩
  ·exact key _ (.tail _ (.tail _ (.head _)))
  rcases hx with _ | ⟨_,hx⟩
  ·exact key _ (.tail _ (.tail _ (.tail _ (.head _))))
  rcases hx with _ | ⟨_,hx⟩
  ·exact key _ (.tail _ (.tail _ (.tail _ (.tail _ (.head _)))))
  rcases hx with _ | ⟨_,hx⟩
  ·exact key _ (.tail _ (.tail _ (.tail _ (.tail _ (.tail _ (.head _))))))
  rcases hx with _ | ⟨_,hx⟩
  ·exact key _ (.tail _ (.tail _ (.tail _ (.tail _ (.tail _ (.tail _ (.head _)))))))
  rcases hx with _ | ⟨_,hx⟩
  ·exact (upd_ne nao.symm).trans ho
  ·exact key _ (.tail _ (.tail _ (.tail _ (.tail _ (.tail _ (.tail _ (.tail _ hx)))))))
 ·rw [ek]
  exact pm.nodup_iff.mpr (List.nodup_cons.mpr ⟨no,I.nd⟩)
 ·intro a ha
  rw [ek] at ha
  rcases List.mem_cons.mp (pm.mem_iff.mp ha) with e | e
  ·rw [e]; exact jn_none wo (one_no noc)
  ·exact jn_none (I.wn a e) (one_no fun z => nc (z ▸ e))
 ·refine .cons ⟨dx,jn_r I.sub (one_sub hc) _ _ one_at⟩ (Paired.mapP I.cp fun c x ⟨dx,e⟩ => ⟨dx,jn_l _ _ e⟩)
theorem MaAt.meet (I : MaAt C CC CM W H G code s N) {i : Nat} {v : V} (hv : MetAt C W code i v) : MaAt C CC CM W (upd H G.am (.dK (putK G.kvs (.inl (i : Int)) v))) { G with kvs := putK G.kvs (.inl (i : Int)) v } code s (N + 1) := by
 have h6 : (cells CM G s)[6]? = some (G.am,.dK G.kvs) := rfl
 have wa : W G.am = none := I.wn _ (List.mem_map.mpr ⟨_,List.mem_of_getElem? h6,rfl⟩)
 have he : cells CM { G with kvs := putK G.kvs (.inl (i : Int)) v } s = (cells CM G s).set 6 (G.am,.dK (putK G.kvs (.inl (i : Int)) v)) := rfl
 have hk : (cells CM { G with kvs := putK G.kvs (.inl (i : Int)) v } s).map Prod.fst = (cells CM G s).map Prod.fst := by rw [he]; exact set_keys h6
 refine ⟨Same.upd' I.sub wa,I.cd,I.cl,by rw [he]; exact put_cells I.ce I.nd h6,by rw [hk]; exact I.nd,by rw [hk]; exact I.wn,I.ol,I.cp,?_,?_⟩
 ·intro j u hu
  rw [valV_put] at hu
  split at hu
  ·rename_i c
   have : j = i := by injection c with c; omega
   subst this
   cases hu
   exact hv
  ·exact I.mt j u hu
 ·have := I.kl
  show (putK G.kvs (.inl (i : Int)) v).length ≤ N + 1
  unfold putK
  split
  ·rw [List.length_map]; omega
  ·rw [List.length_append]; exact Nat.succ_le_succ this
end
end Mc
namespace Mc
open PySem L2 Ins Ar R
structure MaT (K : PySem.W.Frag) (mg : Str → Option Value) (CC CM : Addr) : Prop where
 en : ∃ t,mg "ENDED" = some (.int 0 t)
 tm : ∃ t,mg "TOO_MANY_CALLS" = some (.int 3 t)
 im : ∃ t,mg "IMPOSSIBLE" = some (.int 4 t)
 fs : ∃ t,mg "FULL_STACK" = some (.int 5 t)
 wt : ∃ t,mg "WAITING" = some (.int 6 t)
 go : ∃ t,mg "GOES_ON" = some (.int 7 t)
 mc : ∃ t,mg "MOST_CALLS" = some (.int 200 t)
 ms : ∃ t,mg "MOST_STACKED" = some (.int 1024 t)
 sn : ∃ t,mg "SHARED_NUMBERS" = some (.int 256 t)
 pu : ∃ t,mg "PUT" = some (.int 18 t)
 cC : Cls K CC
 nB : NoAttr K CC "back"
 nW : NoAttr K CC "own"
 cM : Cls K CM
 nCode : NoAttr K CM "code"
 nMet : NoAttr K CM "met"
 nAt : NoAttr K CM "at"
 nStack : NoAttr K CM "stack"
 nShared : NoAttr K CM "shared"
 nCalls : NoAttr K CM "calls"
 nLine : NoAttr K CM "line"
 nWaiting : NoAttr K CM "waiting"
 nOut : NoAttr K CM "out"
 mgC : mg "Call" = some (.ref CC)
 mgM : mg "Machine" = some (.ref CM)
 len : mg "len" = none
 rng : mg "range" = none
section
variable {P : Program} {w : World} {K : PySem.W.Frag} {mg : Str → Option Value} {base : Heap} {C CC CM aW aA : Addr} {wA fA : Nat → Addr}
def spV (C CC CM : Addr) (val : Sd → Nat) : Sp := fun vs H Q _ => ∃ (G : Gh) (y : V) (W : Hp) (code : Ls.Bytes) (s : Sd) (N : Nat),vs = [.ref G.p,y] ∧ MaAt C CC CM W H G code s N ∧ Inv s.m ∧ Q (.int ((val s : Nat) : Int)) H
theorem scSHalt : FnScope ["machine","instruction"] ["machine","instruction"] (defScope sSHalt) := ⟨rfl,rfl,rfl,by decide +kernel,rfl,by decide +kernel,by decide +kernel⟩
theorem ok_sHalt {f : Addr} {fd : FuncData} (F : Fun K "standing_of_halt" "standing_of_halt" sSHalt f fd) (T : MaT K mg CC CM) : FnOk P w K mg base CX0 1 f fd ["machine","instruction"] (spV C CC CM fun _ => 0) := by
 refine F.ok scSHalt (fun vs H Q E h => by obtain ⟨G,y,W,code,s,N,rfl,_⟩ := h; rfl) (fun cdv A outer s0 H vs Q E hr h => ?_)
 obtain ⟨G,y,W,code,s,N,rfl,I,iv,k⟩ := h
 obtain ⟨t0,h0⟩ := T.en
 exact ⟨_,pss_one (ps_ret (pe_glob (v := V.int 0) (by rfl) h0 ⟨t0,rfl⟩)),k⟩
theorem scSNone : FnScope ["machine","instruction"] ["machine","instruction"] (defScope sSNone) := ⟨rfl,rfl,rfl,by decide +kernel,rfl,by decide +kernel,by decide +kernel⟩
theorem ok_sNone {f : Addr} {fd : FuncData} (F : Fun K "standing_with_nothing_needed" "standing_with_nothing_needed" sSNone f fd) (T : MaT K mg CC CM) : FnOk P w K mg base CX0 1 f fd ["machine","instruction"] (spV C CC CM fun _ => 7) := by
 refine F.ok scSNone (fun vs H Q E h => by obtain ⟨G,y,W,code,s,N,rfl,_⟩ := h; rfl) (fun cdv A outer s0 H vs Q E hr h => ?_)
 obtain ⟨G,y,W,code,s,N,rfl,I,iv,k⟩ := h
 obtain ⟨t0,h0⟩ := T.go
 exact ⟨_,pss_one (ps_ret (pe_glob (v := V.int 7) (by rfl) h0 ⟨t0,rfl⟩)),k⟩
theorem len_st {s : Sd} : (s.m.stack.reverse.map V.int).length = s.m.stack.length := by rw [List.length_map,List.length_reverse]
theorem scSRoom : FnScope ["machine","instruction"] ["machine","instruction"] (defScope sSRoom) := ⟨rfl,rfl,rfl,by decide +kernel,rfl,by decide +kernel,by decide +kernel⟩
theorem ok_sRoom {f : Addr} {fd : FuncData} (F : Fun K "standing_with_room_needed" "standing_with_room_needed" sSRoom f fd) (T : MaT K mg CC CM) : FnOk P w K mg base CX0 1 f fd ["machine","instruction"] (spV C CC CM fun s => sRoom s.m) := by
 refine F.ok scSRoom (fun vs H Q E h => by obtain ⟨G,y,W,code,s,N,rfl,_⟩ := h; rfl) (fun cdv A outer s0 H vs Q E hr h => ?_)
 obtain ⟨G,y,W,code,s,N,rfl,I,iv,k⟩ := h
 obtain ⟨t5,h5⟩ := T.fs
 obtain ⟨t7,h7⟩ := T.go
 obtain ⟨tm,hm⟩ := T.ms
 refine ⟨_,pss_one (ps_ret (pe_ifExp (pt_cmpR op_eq (pe_callB call_len_seq (by rfl) T.len PySem.boot_len (pa_cons (pe_fld (pv 0) rfl) pa_nil)) (pe_glob (v := V.int 1024) (by rfl) hm ⟨tm,rfl⟩) (nomark _)) (pe_glob (v := V.int 5) (by rfl) h5 ⟨t5,rfl⟩) (pe_glob (v := V.int 7) (by rfl) h7 ⟨t7,rfl⟩))),?_⟩
 refine ⟨_,rfl,G.p,CM,G.dx,_,_,rfl,I.ob,T.cM,T.nStack,mF_stack ..,G.as,_,rfl,.inl (SqL.of I.st),rfl,_,rfl,?_⟩
 show if decide (V.int _ = V.int 1024) = true then _ else _
 rw [decV,len_st]
 unfold sRoom at k
 dsimp only at k
 by_cases c : s.m.stack.length = 1024
 ·rw [if_pos c] at k
  rw [decide_eq_true (by omega)]
  exact iteT k
 ·rw [if_neg c] at k
  rw [decide_eq_false (by omega)]
  exact iteF k
theorem scSOne : FnScope ["machine","instruction"] ["machine","instruction"] (defScope sSOne) := ⟨rfl,rfl,rfl,by decide +kernel,rfl,by decide +kernel,by decide +kernel⟩
theorem ok_sOne {f : Addr} {fd : FuncData} (F : Fun K "standing_with_one_needed" "standing_with_one_needed" sSOne f fd) (T : MaT K mg CC CM) : FnOk P w K mg base CX0 1 f fd ["machine","instruction"] (spV C CC CM fun s => sOne s.m) := by
 refine F.ok scSOne (fun vs H Q E h => by obtain ⟨G,y,W,code,s,N,rfl,_⟩ := h; rfl) (fun cdv A outer s0 H vs Q E hr h => ?_)
 obtain ⟨G,y,W,code,s,N,rfl,I,iv,k⟩ := h
 obtain ⟨t4,h4⟩ := T.im
 obtain ⟨t7,h7⟩ := T.go
 refine ⟨_,pss_one (ps_ret (pe_ifExp (pt_truth (pe_fld (pv 0) rfl) (fun _ => rfl)) (pe_glob (v := V.int 7) (by rfl) h7 ⟨t7,rfl⟩) (pe_glob (v := V.int 4) (by rfl) h4 ⟨t4,rfl⟩))),?_⟩
 refine ⟨_,rfl,G.p,CM,G.dx,_,_,rfl,I.ob,T.cM,T.nStack,mF_stack ..,_,.inl ⟨_,SqL.of I.st,rfl⟩,?_⟩
 unfold sOne at k
 dsimp only at k
 cases e : s.m.stack with
 | nil => rw [e] at k; exact iteF k
 | cons a r =>
  rw [e,if_neg (by simp)] at k
  rw [show (!((a :: r).reverse.map V.int).isEmpty) = true by simp]
  exact iteT k
theorem atI_rev {α : Type} {g : α → V} {l : List α} {j : Nat} {z : α} {i : Int} (h : l[j]? = some z) (hi : i = -((j : Int) + 1)) : atI (l.reverse.map g) i = some (g z) := by
 have hj := (List.getElem?_eq_some_iff.mp h).1
 subst hi
 unfold atI ixN
 rw [List.length_map,List.length_reverse,if_neg (by omega),if_pos (by omega)]
 show (l.reverse.map g)[(-((j : Int) + 1) + (l.length : Int)).toNat]? = _
 rw [show (-((j : Int) + 1) + (l.length : Int)).toNat = l.length - 1 - j by omega,List.getElem?_map,List.getElem?_reverse (by omega),show l.length - 1 - (l.length - 1 - j) = j by omega,h]
 rfl
def spOwn (C CC CM : Addr) : Sp := fun vs H Q _ => ∃ (G : Gh) (x : Addr) (W : Hp) (code : Ls.Bytes) (s : Sd) (N n i : Nat),vs = [.ref G.p,.ref x] ∧ MaAt C CC CM W H G code s N ∧ InsAt C W x n [(i : Int)] ∧ Q (.bl (hasOwn s.m i)) H
theorem scHasOwn : FnScope ["machine","instruction"] ["machine","instruction"] (defScope sHasOwn) := ⟨rfl,rfl,rfl,by decide +kernel,rfl,by decide +kernel,by decide +kernel⟩
theorem ok_hasOwn {f : Addr} {fd : FuncData} (F : Fun K "has_own_number" "has_own_number" sHasOwn f fd) (T : MaT K mg CC CM) (TI : InsT K mg C aW wA) : FnOk P w K mg base CX0 1 f fd ["machine","instruction"] (spOwn C CC CM) := by
 refine F.ok scHasOwn (fun vs H Q E h => by obtain ⟨G,x,W,code,s,N,n,i,rfl,_⟩ := h; rfl) (fun cdv A outer s0 H vs Q E hr h => ?_)
 obtain ⟨G,x,W,code,s,N,n,i,rfl,I,⟨dxi,l,hx,hl⟩,k⟩ := h
 refine ⟨_,pss_one (ps_ret (pe_and (pe_cmpR op_gt (pe_callB call_len_seq (by rfl) T.len PySem.boot_len (pa_cons (pe_fld (pv 0) rfl) pa_nil)) pe_int (nomark _))
  (pe_one (pe_cmpR op_lt (pe_ix ix_list (pe_fld (pv 1) rfl) pe_int (fun _ _ => rfl)) (pe_callB call_len_seq (by rfl) T.len PySem.boot_len (pa_cons (pe_fld (pe_ix ix_list (pe_fld (pv 0) rfl) (pe_un un_neg pe_int) (fun _ _ => rfl)) rfl) pa_nil)) (nomark _))))),?_⟩
 refine ⟨_,rfl,G.p,CM,G.dx,_,_,rfl,I.ob,T.cM,T.nCalls,mF_calls ..,G.acl,_,rfl,.inl (SqL.of I.ca),_,_,rfl,rfl,_,rfl,?_⟩
 rw [List.length_map,List.length_reverse,I.cs_len]
 unfold hasOwn at k
 cases e : s.m.frames with
 | nil => rw [e] at k; exact iteF k
 | cons fr fs =>
  rw [e] at k
  obtain ⟨c,cs,o,os,dx,hc,ho,hcW,hoH,_⟩ := I.top e
  rw [decide_eq_true (by simp only [List.length_cons]; omega)]
  have hca := I.ca
  rw [hc] at hca
  refine iteT ⟨_,rfl,x,C,dxi,_,_,rfl,I.sub _ _ hx,TI.cl,TI.nO,insF_operands ..,l,_,_,_,rfl,rfl,SqL.of (I.sub _ _ hl),atI_nat (j := 0) rfl,_,rfl,G.p,CM,G.dx,_,_,rfl,I.ob,T.cM,T.nCalls,mF_calls ..,_,rfl,G.acl,_,_,_,rfl,rfl,SqL.of hca,atI_rev (g := V.ref) (j := 0) (z := c) rfl rfl,c,CC,dx,_,_,rfl,I.sub _ _ hcW,T.cC,T.nW,callF_own ..,o,_,rfl,.inl (SqL.of hoH),_,_,rfl,rfl,?_⟩
  rw [List.length_map]
  have ed : decide ((i : Int) < (fr.2.length : Int)) = decide (i < fr.2.length) := decide_eq_decide.mpr (by omega)
  dsimp only
  rw [ed]
  exact k
def spI (C CC CM : Addr) (n : Nat) : Sp := fun vs H Q _ => ∃ (G : Gh) (x : Addr) (W : Hp) (code : Ls.Bytes) (s : Sd) (N : Nat) (ops : List Nat),vs = [.ref G.p,.ref x] ∧ MaAt C CC CM W H G code s N ∧ Inv s.m ∧ InsAt C W x n (Sh.numsOf n ops) ∧ Wf n ops ∧ ∀ H',Same H H' → Q (.int ((stdN n ops s.m s.q : Nat) : Int)) H'
theorem wf1 {n : Nat} {ops : List Nat} (h : Wf n ops) (hn : 2 ≤ n ∧ n ≤ 5) : ∃ i,ops = [i] ∧ i < 256 ∧ Sh.numsOf n ops = [(i : Int)] := by
 cases h with
 | no g => omega
 | push g => omega
 | one g g2 => exact ⟨_,rfl,g2,by rw [nums_other (by omega)]; rfl⟩
 | four g => omega
 | call g => omega
theorem scSLoadl : FnScope ["machine","instruction"] ["machine","instruction"] (defScope sSLoadl) := ⟨rfl,rfl,rfl,by decide +kernel,rfl,by decide +kernel,by decide +kernel⟩
theorem ok_sLoadl {f fo fr : Addr} {fd fdo fdr : FuncData} (F : Fun K "standing_of_loadl" "standing_of_loadl" sSLoadl f fd) (T : MaT K mg CC CM) (TI : InsT K mg C aW wA)
  (DO : Dn K mg "has_own_number" sHasOwn fo fdo ["machine","instruction"]) (DR : Dn K mg "standing_with_room_needed" sSRoom fr fdr ["machine","instruction"]) : FnOk P w K mg base CX0 2 f fd ["machine","instruction"] (spI C CC CM 4) := by
 have GO : FnOk P w K mg base CX0 1 fo fdo ["machine","instruction"] (spOwn C CC CM) := ok_hasOwn DO.fn T TI
 have GR : FnOk P w K mg base CX0 1 fr fdr ["machine","instruction"] (spV C CC CM fun s => sRoom s.m) := ok_sRoom DR.fn T
 refine F.ok scSLoadl (fun vs H Q E h => by obtain ⟨G,x,W,code,s,N,ops,rfl,_⟩ := h; rfl) (fun cdv A outer s0 H vs Q E hr h => ?_)
 obtain ⟨G,x,W,code,s,N,ops,rfl,I,iv,hx,wf,k⟩ := h
 obtain ⟨i,rfl,hi,en⟩ := wf1 wf (by omega)
 rw [en] at hx
 obtain ⟨t4,h4⟩ := T.im
 refine ⟨_,pss_cons (ps_if (pt_not (pt_val (pe_call GO hr (by rfl) DO.at_ DO.fn.kp DO.bd .nil pass0 (pa_cons (pv 0) (pa_cons (pv 1) pa_nil))) (fun _ => rfl))) (pss_one (ps_ret (pe_glob (v := V.int 4) (by rfl) h4 ⟨t4,rfl⟩))) pss_nil)
  (pss_one (ps_ret (pe_call GR hr (by rfl) DR.at_ DR.fn.kp DR.bd .nil pass0 (pa_cons (pv 0) (pa_cons (pv 1) pa_nil))))),?_⟩
 refine ⟨_,rfl,_,rfl,G,x,W,code,s,N,4,i,rfl,I,hx,_,rfl,?_⟩
 have k' := k H (Same.refl H)
 change Q (.int ((sLoadl s.m i : Nat) : Int)) H at k'
 unfold sLoadl at k'
 cases e : hasOwn s.m i with
 | false => rw [e] at k'; exact iteT k'
 | true =>
  rw [e,if_pos rfl] at k'
  exact iteF ⟨_,rfl,_,rfl,G,.ref x,W,code,s,N,rfl,I,iv,k'⟩
theorem scSStorel : FnScope ["machine","instruction"] ["machine","instruction"] (defScope sSStorel) := ⟨rfl,rfl,rfl,by decide +kernel,rfl,by decide +kernel,by decide +kernel⟩
theorem ok_sStorel {f fo fr : Addr} {fd fdo fdr : FuncData} (F : Fun K "standing_of_storel" "standing_of_storel" sSStorel f fd) (T : MaT K mg CC CM) (TI : InsT K mg C aW wA)
  (DO : Dn K mg "has_own_number" sHasOwn fo fdo ["machine","instruction"]) (DR : Dn K mg "standing_with_one_needed" sSOne fr fdr ["machine","instruction"]) : FnOk P w K mg base CX0 2 f fd ["machine","instruction"] (spI C CC CM 5) := by
 have GO : FnOk P w K mg base CX0 1 fo fdo ["machine","instruction"] (spOwn C CC CM) := ok_hasOwn DO.fn T TI
 have GR : FnOk P w K mg base CX0 1 fr fdr ["machine","instruction"] (spV C CC CM fun s => sOne s.m) := ok_sOne DR.fn T
 refine F.ok scSStorel (fun vs H Q E h => by obtain ⟨G,x,W,code,s,N,ops,rfl,_⟩ := h; rfl) (fun cdv A outer s0 H vs Q E hr h => ?_)
 obtain ⟨G,x,W,code,s,N,ops,rfl,I,iv,hx,wf,k⟩ := h
 obtain ⟨i,rfl,hi,en⟩ := wf1 wf (by omega)
 rw [en] at hx
 obtain ⟨t4,h4⟩ := T.im
 refine ⟨_,pss_cons (ps_if (pt_not (pt_val (pe_call GO hr (by rfl) DO.at_ DO.fn.kp DO.bd .nil pass0 (pa_cons (pv 0) (pa_cons (pv 1) pa_nil))) (fun _ => rfl))) (pss_one (ps_ret (pe_glob (v := V.int 4) (by rfl) h4 ⟨t4,rfl⟩))) pss_nil)
  (pss_one (ps_ret (pe_call GR hr (by rfl) DR.at_ DR.fn.kp DR.bd .nil pass0 (pa_cons (pv 0) (pa_cons (pv 1) pa_nil))))),?_⟩
 refine ⟨_,rfl,_,rfl,G,x,W,code,s,N,5,i,rfl,I,hx,_,rfl,?_⟩
 have k' := k H (Same.refl H)
 change Q (.int ((sStorel s.m i : Nat) : Int)) H at k'
 unfold sStorel at k'
 cases e : hasOwn s.m i with
 | false => rw [e] at k'; exact iteT k'
 | true =>
  rw [e,if_pos rfl] at k'
  exact iteF ⟨_,rfl,_,rfl,G,.ref x,W,code,s,N,rfl,I,iv,k'⟩
theorem sm_of {z : Int} (h : Ls.inRange z = true) : Sm z := by
 unfold Ls.inRange at h
 simp only [Bool.and_eq_true,decide_eq_true_eq] at h
 exact h
theorem scSOp : FnScope ["machine","instruction","stack"] ["machine","instruction"] (defScope sSOp) := ⟨rfl,rfl,rfl,by decide +kernel,rfl,by decide +kernel,by decide +kernel⟩
theorem std_op {o : Nat} (ho : o ≤ 6) (ops : List Nat) (m : Ls.M) (q : List Int) : stdN (6 + o) ops m q = sOp m o := by
 match o,ho with
 | 0,_ => rfl
 | 1,_ => rfl
 | 2,_ => rfl
 | 3,_ => rfl
 | 4,_ => rfl
 | 5,_ => rfl
 | 6,_ => rfl
 | o + 7,h => exact absurd h (by omega)
theorem ok_sOp {f fs : Addr} {fd fds : FuncData} {o : Nat} (ho : o ≤ 6) (F : Fun K "standing_of_operation" "standing_of_operation" sSOp f fd) (T : MaT K mg CC CM) (TI : InsT K mg C aW wA) (DS : Dn K mg "operation_standing" sOpStd fs fds ["number","a","b"])
  (GS : FnOk P w K mg base CX0 2 fs fds ["number","a","b"] spStd) : FnOk P w K mg base CX0 3 f fd ["machine","instruction"] (spI C CC CM (6 + o)) := by
 refine F.ok scSOp (fun vs H Q E h => by obtain ⟨G,x,W,code,s,N,ops,rfl,_⟩ := h; rfl) (fun cdv A outer s0 H vs Q E hr h => ?_)
 obtain ⟨G,x,W,code,s,N,ops,rfl,I,iv,⟨dxi,l,hx,hl⟩,wf,k⟩ := h
 obtain ⟨t4,h4⟩ := T.im
 refine ⟨_,pss_cons (ps_set (i := 2) scSOp.nd rfl (Or.inl rfl) (pe_fld (pv 0) rfl))
  (pss_cons (ps_if (pt_cmpR op_lt (pe_callB call_len_seq (by rfl) T.len PySem.boot_len (pa_cons (pv 2) pa_nil)) pe_int (nomark _)) (pss_one (ps_ret (pe_glob (v := V.int 4) (by rfl) h4 ⟨t4,rfl⟩))) pss_nil)
  (pss_one (ps_ret (pe_call GS hr (by rfl) DS.at_ DS.fn.kp DS.bd .nil pass0 (pa_cons (pe_fld (pv 1) rfl) (pa_cons (pe_ix ix_list (pv 2) (pe_un un_neg pe_int) (fun _ _ => rfl)) (pa_cons (pe_ix ix_list (pv 2) (pe_un un_neg pe_int) (fun _ _ => rfl)) pa_nil))))))),?_⟩
 refine ⟨_,rfl,G.p,CM,G.dx,_,_,rfl,I.ob,T.cM,T.nStack,mF_stack ..,?_⟩
 refine ⟨_,rfl,G.as,_,rfl,.inl (SqL.of I.st),_,_,rfl,rfl,_,rfl,?_⟩
 rw [len_st]
 rw [std_op ho] at k
 unfold sOp at k
 have hst := I.st
 have short : s.m.stack.length < 2 → ∀ H',Same H H' → Q (.int 4) H' := fun hl => by
  cases e : s.m.stack with
  | nil => rw [e] at k; exact k
  | cons b t =>
   cases t with
   | nil => rw [e] at k; exact k
   | cons a r => rw [e] at hl; simp at hl; omega
 refine ite2 (fun y => short (by have := of_decide_eq_true y; omega) _ (Same.refl H)) (fun y => ?_)
 have hlen : 2 ≤ s.m.stack.length := by
  by_cases q : 2 ≤ s.m.stack.length
  ·exact q
  ·exact absurd (decide_eq_true (by omega)) y
 cases e : s.m.stack with
 | nil => rw [e] at hlen; simp at hlen
 | cons b t =>
  cases t with
  | nil => rw [e] at hlen; simp at hlen
  | cons a r =>
   rw [e] at k hst
   have ha : Sm a := sm_of (iv.sr a (by rw [e]; simp))
   have hb : Sm b := sm_of (iv.sr b (by rw [e]; simp))
   exact ⟨_,rfl,x,C,dxi,_,_,rfl,I.sub _ _ hx,TI.cl,TI.nN,insF_number ..,_,rfl,_,rfl,G.as,_,_,_,rfl,rfl,SqL.of hst,atI_rev (g := V.int) (j := 1) (z := a) rfl rfl,_,rfl,_,rfl,G.as,_,_,_,rfl,rfl,SqL.of hst,atI_rev (g := V.int) (j := 0) (z := b) rfl rfl,o,a,b,rfl,ho,ha,hb,k⟩
theorem wf2 {ops : List Nat} (h : Wf 16 ops) : ∃ a y,ops = [a,y] ∧ y < 256 ∧ Sh.numsOf 16 ops = [(a : Int),(y : Int)] := by
 cases h with
 | no g => omega
 | one g g2 => omega
 | four g => omega
 | call g => exact ⟨_,_,rfl,g,rfl⟩
theorem scSCall : FnScope ["machine","instruction"] ["machine","instruction"] (defScope sSCall) := ⟨rfl,rfl,rfl,by decide +kernel,rfl,by decide +kernel,by decide +kernel⟩
theorem ok_sCall {f : Addr} {fd : FuncData} (F : Fun K "standing_of_call" "standing_of_call" sSCall f fd) (T : MaT K mg CC CM) (TI : InsT K mg C aW wA) : FnOk P w K mg base CX0 1 f fd ["machine","instruction"] (spI C CC CM 16) := by
 refine F.ok scSCall (fun vs H Q E h => by obtain ⟨G,x,W,code,s,N,ops,rfl,_⟩ := h; rfl) (fun cdv A outer s0 H vs Q E hr h => ?_)
 obtain ⟨G,x,W,code,s,N,ops,rfl,I,iv,hx,wf,k⟩ := h
 obtain ⟨a,y,rfl,hy,en⟩ := wf2 wf
 rw [en] at hx
 obtain ⟨dxi,l,hx,hl⟩ := hx
 obtain ⟨t4,h4⟩ := T.im
 obtain ⟨t3,h3⟩ := T.tm
 obtain ⟨t7,h7⟩ := T.go
 obtain ⟨tm,hm⟩ := T.mc
 refine ⟨_,pss_cons (ps_if (pt_cmpR op_lt (pe_callB call_len_seq (by rfl) T.len PySem.boot_len (pa_cons (pe_fld (pv 0) rfl) pa_nil)) (pe_ix ix_list (pe_fld (pv 1) rfl) pe_int (fun _ _ => rfl)) (nomark _)) (pss_one (ps_ret (pe_glob (v := V.int 4) (by rfl) h4 ⟨t4,rfl⟩))) pss_nil)
  (pss_one (ps_ret (pe_ifExp (pt_cmpR op_eq (pe_callB call_len_seq (by rfl) T.len PySem.boot_len (pa_cons (pe_fld (pv 0) rfl) pa_nil)) (pe_glob (v := V.int 200) (by rfl) hm ⟨tm,rfl⟩) (nomark _)) (pe_glob (v := V.int 3) (by rfl) h3 ⟨t3,rfl⟩) (pe_glob (v := V.int 7) (by rfl) h7 ⟨t7,rfl⟩)))),?_⟩
 refine ⟨_,rfl,G.p,CM,G.dx,_,_,rfl,I.ob,T.cM,T.nStack,mF_stack ..,G.as,_,rfl,.inl (SqL.of I.st),_,rfl,x,C,dxi,_,_,rfl,I.sub _ _ hx,TI.cl,TI.nO,insF_operands ..,l,_,_,_,rfl,rfl,SqL.of (I.sub _ _ hl),atI_nat (j := 1) rfl,_,_,rfl,rfl,_,rfl,?_⟩
 rw [len_st]
 have k' := k H (Same.refl H)
 change Q (.int ((sCall s.m y : Nat) : Int)) H at k'
 unfold sCall at k'
 refine ite2 (fun z => ?_) (fun z => ?_)
 ·rw [if_pos (by have := of_decide_eq_true z; omega)] at k'
  exact k'
 ·have hn : ¬ s.m.stack.length < y := fun q => z (decide_eq_true (by omega))
  rw [if_neg hn] at k'
  refine ⟨_,rfl,G.p,CM,G.dx,_,_,rfl,I.ob,T.cM,T.nCalls,mF_calls ..,G.acl,_,rfl,.inl (SqL.of I.ca),rfl,_,rfl,?_⟩
  show if decide (V.int _ = V.int 200) = true then _ else _
  rw [decV,List.length_map,List.length_reverse,I.cs_len]
  by_cases c : s.m.frames.length = 200
  ·rw [if_pos c] at k'
   rw [decide_eq_true (by omega)]
   exact iteT k'
  ·rw [if_neg c] at k'
   rw [decide_eq_false (by omega)]
   exact iteF k'
theorem scSRet : FnScope ["machine","instruction"] ["machine","instruction"] (defScope sSRet) := ⟨rfl,rfl,rfl,by decide +kernel,rfl,by decide +kernel,by decide +kernel⟩
theorem ok_sRet {f : Addr} {fd : FuncData} (F : Fun K "standing_of_ret" "standing_of_ret" sSRet f fd) (T : MaT K mg CC CM) : FnOk P w K mg base CX0 1 f fd ["machine","instruction"] (spV C CC CM fun s => sRet s.m) := by
 refine F.ok scSRet (fun vs H Q E h => by obtain ⟨G,y,W,code,s,N,rfl,_⟩ := h; rfl) (fun cdv A outer s0 H vs Q E hr h => ?_)
 obtain ⟨G,y,W,code,s,N,rfl,I,iv,k⟩ := h
 obtain ⟨t4,h4⟩ := T.im
 obtain ⟨t7,h7⟩ := T.go
 refine ⟨_,pss_one (ps_ret (pe_ifExp (pt_truth (pe_fld (pv 0) rfl) (fun _ => rfl)) (pe_glob (v := V.int 7) (by rfl) h7 ⟨t7,rfl⟩) (pe_glob (v := V.int 4) (by rfl) h4 ⟨t4,rfl⟩))),?_⟩
 refine ⟨_,rfl,G.p,CM,G.dx,_,_,rfl,I.ob,T.cM,T.nCalls,mF_calls ..,_,.inl ⟨_,SqL.of I.ca,rfl⟩,?_⟩
 unfold sRet at k
 dsimp only at k
 have hcl := I.cs_len
 cases e : s.m.frames with
 | nil =>
  rw [e] at k hcl
  rw [List.length_eq_zero_iff.mp hcl]
  exact iteF k
 | cons a r =>
  rw [e,if_neg (by simp)] at k
  rw [e] at hcl
  rw [show (!(G.cs.reverse.map V.ref).isEmpty) = true by
   cases h : G.cs with
   | nil => rw [h] at hcl; cases hcl
   | cons _ _ => simp]
  exact iteT k
theorem scSGet : FnScope ["machine","instruction"] ["machine","instruction"] (defScope sSGet) := ⟨rfl,rfl,rfl,by decide +kernel,rfl,by decide +kernel,by decide +kernel⟩
theorem ok_sGet {f : Addr} {fd : FuncData} (F : Fun K "standing_of_get" "standing_of_get" sSGet f fd) (T : MaT K mg CC CM) : FnOk P w K mg base CX0 1 f fd ["machine","instruction"] (spV C CC CM fun s => sGet s.m s.q) := by
 refine F.ok scSGet (fun vs H Q E h => by obtain ⟨G,y,W,code,s,N,rfl,_⟩ := h; rfl) (fun cdv A outer s0 H vs Q E hr h => ?_)
 obtain ⟨G,y,W,code,s,N,rfl,I,iv,k⟩ := h
 obtain ⟨t5,h5⟩ := T.fs
 obtain ⟨t6,h6⟩ := T.wt
 obtain ⟨t7,h7⟩ := T.go
 obtain ⟨tm,hm⟩ := T.ms
 refine ⟨_,pss_cons (ps_if (pt_cmpR op_eq (pe_callB call_len_seq (by rfl) T.len PySem.boot_len (pa_cons (pe_fld (pv 0) rfl) pa_nil)) (pe_glob (v := V.int 1024) (by rfl) hm ⟨tm,rfl⟩) (nomark _)) (pss_one (ps_ret (pe_glob (v := V.int 5) (by rfl) h5 ⟨t5,rfl⟩))) pss_nil)
  (pss_one (ps_ret (pe_ifExp (pt_truth (pe_fld (pv 0) rfl) (fun _ => rfl)) (pe_glob (v := V.int 7) (by rfl) h7 ⟨t7,rfl⟩) (pe_glob (v := V.int 6) (by rfl) h6 ⟨t6,rfl⟩)))),?_⟩
 refine ⟨_,rfl,G.p,CM,G.dx,_,_,rfl,I.ob,T.cM,T.nStack,mF_stack ..,G.as,_,rfl,.inl (SqL.of I.st),rfl,_,rfl,?_⟩
 show if decide (V.int _ = V.int 1024) = true then _ else _
 rw [decV,len_st]
 unfold sGet at k
 dsimp only at k
 by_cases c : s.m.stack.length = 1024
 ·rw [if_pos c] at k
  rw [decide_eq_true (by omega)]
  exact iteT k
 ·rw [if_neg c] at k
  rw [decide_eq_false (by omega)]
  refine iteF ⟨_,rfl,G.p,CM,G.dx,_,_,rfl,I.ob,T.cM,T.nWaiting,mF_waiting ..,_,.inl ⟨_,SqL.of I.wa,rfl⟩,?_⟩
  cases e : s.q with
  | nil => rw [e] at k; exact iteF k
  | cons a r =>
   rw [e,if_neg (by simp)] at k
   exact iteT k
end
end Mc
namespace Mc
open PySem L2 Ins Ar R
def ky (CM : Addr) (G : Gh) (s : Sd) : List Addr := (cells CM G s).map Prod.fst
def Fr (ks : List Addr) (W H : Hp) (ks' : List Addr) (W' H' : Hp) : Prop := ∀ a o,H a = some o → a ∉ ks → W a = none → H' a = some o ∧ a ∉ ks' ∧ W' a = none
theorem Fr.same {ks : List Addr} {W H H' : Hp} (h : Same H H') : Fr ks W H ks W H' := fun a o e h1 h2 => ⟨h a o e,h1,h2⟩
theorem Fr.upd {ks : List Addr} {W H : Hp} {a : Addr} {o : HO} (h : a ∈ ks) : Fr ks W H ks W (upd H a o) := fun b u e h1 h2 => ⟨by rw [upd_ne (fun (z : b = a) => h1 (z ▸ h))]; exact e,h1,h2⟩
theorem Fr.trans {ks ks1 ks2 : List Addr} {W H W1 H1 W2 H2 : Hp} (f : Fr ks W H ks1 W1 H1) (g : Fr ks1 W1 H1 ks2 W2 H2) : Fr ks W H ks2 W2 H2 := fun a o e h1 h2 => by
 obtain ⟨x,y,z⟩ := f a o e h1 h2
 exact g a o x y z
theorem ky_ne {ks : List Addr} {a b : Addr} (h : b ∉ ks) (ha : a ∈ ks) : b ≠ a := fun z => h (z ▸ ha)
section
variable {P : Program} {w : World} {K : PySem.W.Frag} {mg : Str → Option Value} {base : Heap} {C CC CM aW aA : Addr} {wA fA : Nat → Addr}
def spD (C CC CM : Addr) (n : Nat) : Sp := fun vs H Q _ => ∃ (G : Gh) (x : Addr) (W : Hp) (code : Ls.Bytes) (s : Sd) (N : Nat) (ops : List Nat),vs = [.ref G.p,.ref x] ∧ MaAt C CC CM W H G code s N ∧ Inv s.m ∧ InsAt C W x n (Sh.numsOf n ops) ∧ Wf n ops ∧ stdN n ops s.m s.q = 7 ∧ s.out.length ≤ 20000 ∧
 ∀ W' H' G',G'.p = G.p → Fr (ky CM G s) W H (ky CM G' (doN n ops s)) W' H' → MaAt C CC CM W' H' G' code (doN n ops s) N → Q .non H'
theorem rev_snoc {α : Type} {g : α → V} (z : α) (l : List α) : l.reverse.map g ++ [g z] = (z :: l).reverse.map g := by simp
theorem rev_drop {α : Type} {g : α → V} (z : α) (l : List α) : ((z :: l).reverse.map g).dropLast = l.reverse.map g := by simp
theorem rev_last {α : Type} {g : α → V} (z : α) (l : List α) : ((z :: l).reverse.map g)[((z :: l).reverse.map g).length - 1]? = some (g z) := by simp
section
variable {W H : Hp} {G : Gh} {code : Ls.Bytes} {s : Sd} {N : Nat}
theorem ky_p : G.p ∈ ky CM G s := .head _
theorem ky_as : G.as ∈ ky CM G s := .tail _ (.head _)
theorem ky_ash : G.ash ∈ ky CM G s := .tail _ (.tail _ (.head _))
theorem ky_acl : G.acl ∈ ky CM G s := .tail _ (.tail _ (.tail _ (.head _)))
theorem ky_aw : G.aw ∈ ky CM G s := .tail _ (.tail _ (.tail _ (.tail _ (.head _))))
theorem ky_ao : G.ao ∈ ky CM G s := .tail _ (.tail _ (.tail _ (.tail _ (.tail _ (.head _)))))
theorem ky_am : G.am ∈ ky CM G s := .tail _ (.tail _ (.tail _ (.tail _ (.tail _ (.tail _ (.head _))))))
theorem MaAt.len_s (I : MaAt C CC CM W H G code s N) (iv : Inv s.m) : (s.m.stack.reverse.map V.int).length < sizeLine := by
 have := iv.sl
 have := line_big'
 rw [len_st]; omega
end
theorem scDNone : FnScope ["machine","instruction"] ["machine","instruction"] (defScope sDNone) := ⟨rfl,rfl,rfl,by decide +kernel,rfl,by decide +kernel,by decide +kernel⟩
theorem ok_dNone {f : Addr} {fd : FuncData} (F : Fun K "do_nothing" "do_nothing" sDNone f fd) : FnOk P w K mg base CX0 1 f fd ["machine","instruction"] (spD C CC CM 0) := by
 refine F.ok scDNone (fun vs H Q E h => by obtain ⟨G,x,W,code,s,N,ops,rfl,_⟩ := h; rfl) (fun cdv A outer s0 H vs Q E hr h => ?_)
 obtain ⟨G,x,W,code,s,N,ops,rfl,I,iv,hx,wf,st,hq,k⟩ := h
 exact ⟨_,pss_one ps_pass,absurd st (show ¬ (0 = 7) by decide)⟩
theorem wfP {ops : List Nat} (h : Wf 1 ops) : ∃ x,ops = [x] ∧ Sh.numsOf 1 ops = [Ls.signed x] := by
 cases h with
 | no g => omega
 | push g => exact ⟨_,rfl,rfl⟩
 | one g g2 => omega
 | four g => omega
theorem wf4 {n : Nat} {ops : List Nat} (h : Wf n ops) (hn : n = 14 ∨ n = 15 ∨ n = 20) : ∃ x,ops = [x] ∧ Sh.numsOf n ops = [(x : Int)] := by
 cases h with
 | no g => omega
 | push g => omega
 | one g g2 => omega
 | four g => exact ⟨_,rfl,by rw [nums_other (by omega)]; rfl⟩
 | call g => omega
theorem scDPush : FnScope ["machine","instruction"] ["machine","instruction"] (defScope sDPush) := ⟨rfl,rfl,rfl,by decide +kernel,rfl,by decide +kernel,by decide +kernel⟩
theorem ok_dPush {f : Addr} {fd : FuncData} (F : Fun K "do_push" "do_push" sDPush f fd) (T : MaT K mg CC CM) (TI : InsT K mg C aW wA) : FnOk P w K mg base CX0 1 f fd ["machine","instruction"] (spD C CC CM 1) := by
 refine F.ok scDPush (fun vs H Q E h => by obtain ⟨G,x,W,code,s,N,ops,rfl,_⟩ := h; rfl) (fun cdv A outer s0 H vs Q E hr h => ?_)
 obtain ⟨G,x,W,code,s,N,ops,rfl,I,iv,⟨dxi,l,hx,hl⟩,wf,st,hq,k⟩ := h
 obtain ⟨z,rfl,en⟩ := wfP wf
 rw [en] at hl
 refine ⟨_,pss_one (ps_expr (pe_bm PySem.F.plainAttrs_list PySem.F.slot_list_append PySem.F.type_list_append mt_append (pe_fld (pv 0) rfl) (pa_cons (pe_ix ix_list (pe_fld (pv 1) rfl) pe_int (fun _ _ => rfl)) pa_nil))),?_⟩
 refine ⟨_,rfl,_,_,_,_,_,rfl,I.ob,T.cM,T.nStack,mF_stack ..,⟨.inl ⟨rfl,_,SqL.of I.st⟩,⟨_,rfl,x,C,dxi,_,_,rfl,(I.sub _ _ hx),TI.cl,TI.nO,insF_operands ..,l,_,_,_,rfl,rfl,SqL.of (I.sub _ _ hl),(atI_nat (j := 0) rfl),⟨G.as,_,_,rfl,rfl,I.st,I.len_s iv,?_⟩⟩⟩⟩
 rw [rev_snoc]
 exact k _ _ G rfl (.upd ky_as) (I.putS _)
theorem sh_at {f : Nat → Int} {i : Nat} (h : i < 256) : atI (shV f) (i : Int) = some (V.int (f i)) := by
 refine atI_nat ?_
 unfold shV
 rw [List.getElem?_map,List.getElem?_range h]; rfl
theorem sh_set {f : Nat → Int} {i : Nat} {z : Int} : (shV f).set i (V.int z) = shV (Ls.set f i z) := by
 unfold shV
 refine List.ext_getElem? fun j => ?_
 by_cases c : i = j
 ·subst c
  by_cases h : i < 256
  ·rw [List.getElem?_set_self (by simpa using h),List.getElem?_map,List.getElem?_range h]
   show _ = some (V.int (Ls.set f i z i))
   unfold Ls.set
   rw [if_pos rfl]
  ·rw [List.getElem?_eq_none (by simp; omega),List.getElem?_eq_none (by simp; omega)]
 ·rw [List.getElem?_set_ne c,List.getElem?_map,List.getElem?_map]
  by_cases h : j < 256
  ·rw [List.getElem?_range h]
   show some (V.int (f j)) = some (V.int (Ls.set f i z j))
   unfold Ls.set
   rw [if_neg (fun e => c e.symm)]
  ·rw [List.getElem?_eq_none (by simp; omega)]; rfl
theorem sh_ix {f : Nat → Int} {i : Nat} (h : i < 256) : ixN (shV f).length (i : Int) = some i := by
 have e : (shV f).length = 256 := by unfold shV; simp
 unfold ixN
 rw [e,if_pos (by omega),if_pos (by omega)]
 simp
theorem scDLoad : FnScope ["machine","instruction"] ["machine","instruction"] (defScope sDLoad) := ⟨rfl,rfl,rfl,by decide +kernel,rfl,by decide +kernel,by decide +kernel⟩
theorem ok_dLoad {f : Addr} {fd : FuncData} (F : Fun K "do_load" "do_load" sDLoad f fd) (T : MaT K mg CC CM) (TI : InsT K mg C aW wA) : FnOk P w K mg base CX0 1 f fd ["machine","instruction"] (spD C CC CM 2) := by
 refine F.ok scDLoad (fun vs H Q E h => by obtain ⟨G,x,W,code,s,N,ops,rfl,_⟩ := h; rfl) (fun cdv A outer s0 H vs Q E hr h => ?_)
 obtain ⟨G,x,W,code,s,N,ops,rfl,I,iv,⟨dxi,l,hx,hl⟩,wf,st,hq,k⟩ := h
 obtain ⟨z,rfl,hz,en⟩ := wf1 wf (by omega)
 rw [en] at hl
 refine ⟨_,pss_one (ps_expr (pe_bm PySem.F.plainAttrs_list PySem.F.slot_list_append PySem.F.type_list_append mt_append (pe_fld (pv 0) rfl) (pa_cons (pe_ix ix_list (pe_fld (pv 0) rfl) (pe_ix ix_list (pe_fld (pv 1) rfl) pe_int (fun _ _ => rfl)) (fun _ _ => rfl)) pa_nil))),?_⟩
 refine ⟨_,rfl,_,_,_,_,_,rfl,I.ob,T.cM,T.nStack,mF_stack ..,⟨.inl ⟨rfl,_,SqL.of I.st⟩,⟨_,rfl,_,_,_,_,_,rfl,I.ob,T.cM,T.nShared,mF_shared ..,⟨_,rfl,x,C,dxi,_,_,rfl,(I.sub _ _ hx),TI.cl,TI.nO,insF_operands ..,l,_,_,_,rfl,rfl,SqL.of (I.sub _ _ hl),(atI_nat (j := 0) rfl),⟨G.ash,_,_,_,rfl,rfl,SqL.of I.sh,sh_at hz,G.as,_,_,rfl,rfl,I.st,I.len_s iv,?_⟩⟩⟩⟩⟩
 rw [rev_snoc]
 exact k _ _ G rfl (.upd ky_as) (I.putS _)
theorem one_st {s : Sd} (h : sOne s.m = 7) : ∃ a r,s.m.stack = a :: r := by
 unfold sOne at h
 cases e : s.m.stack with
 | nil => rw [e] at h; cases h
 | cons a r => exact ⟨a,r,rfl⟩
theorem scDStore : FnScope ["machine","instruction"] ["machine","instruction"] (defScope sDStore) := ⟨rfl,rfl,rfl,by decide +kernel,rfl,by decide +kernel,by decide +kernel⟩
theorem ok_dStore {f : Addr} {fd : FuncData} (F : Fun K "do_store" "do_store" sDStore f fd) (T : MaT K mg CC CM) (TI : InsT K mg C aW wA) : FnOk P w K mg base CX0 1 f fd ["machine","instruction"] (spD C CC CM 3) := by
 refine F.ok scDStore (fun vs H Q E h => by obtain ⟨G,x,W,code,s,N,ops,rfl,_⟩ := h; rfl) (fun cdv A outer s0 H vs Q E hr h => ?_)
 obtain ⟨G,x,W,code,s,N,ops,rfl,I,iv,⟨dxi,l,hx,hl⟩,wf,st,hq,k⟩ := h
 obtain ⟨z,rfl,hz,en⟩ := wf1 wf (by omega)
 rw [en] at hl
 obtain ⟨a,r,e⟩ := one_st st
 have hst := I.st
 rw [e] at hst
 refine ⟨_,pss_one (ps_asg (pe_bm0 PySem.F.plainAttrs_list PySem.F.slot_list_pop PySem.F.type_list_pop mt_pop (pe_fld (pv 0) rfl)) (pg_sub (pe_fld (pv 0) rfl) (pe_ix ix_list (pe_fld (pv 1) rfl) pe_int (fun _ _ => rfl)) set_list)),?_⟩
 refine ⟨_,rfl,_,_,_,_,_,rfl,I.ob,T.cM,T.nStack,mF_stack ..,⟨.inl ⟨rfl,_,SqL.of hst⟩,G.as,_,_,rfl,rfl,hst,rev_last a r,?_⟩⟩
 rw [rev_drop]
 have I1 := I.putS r
 refine ⟨_,rfl,_,_,_,_,_,rfl,I1.ob,T.cM,T.nShared,mF_shared ..,⟨_,rfl,x,C,dxi,_,_,rfl,(I1.sub _ _ hx),TI.cl,TI.nO,insF_operands ..,l,_,_,_,rfl,rfl,SqL.of (I1.sub _ _ hl),(atI_nat (j := 0) rfl),⟨G.ash,_,_,z,rfl,rfl,I1.sh,sh_ix hz,?_⟩⟩⟩
 rw [sh_set]
 have kk := k W _ G rfl ((Fr.upd ky_as).trans (.upd ky_ash)) (by
  have I2 := I1.putV (Ls.set s.m.vars z a)
  change MaAt C CC CM W _ G code (dStore z s) N
  unfold dStore
  rw [e]
  exact I2)
 exact kk
theorem own_at {s : Sd} {i : Nat} {f : Nat × List Int} {fs : List (Nat × List Int)} (e : s.m.frames = f :: fs) (h : hasOwn s.m i = true) : i < f.2.length := by
 unfold hasOwn at h
 rw [e] at h
 exact of_decide_eq_true h
theorem own_fr {s : Sd} {i : Nat} (h : hasOwn s.m i = true) : ∃ f fs,s.m.frames = f :: fs ∧ i < f.2.length := by
 cases e : s.m.frames with
 | nil => unfold hasOwn at h; rw [e] at h; cases h
 | cons f fs => exact ⟨f,fs,rfl,own_at e h⟩
theorem scDLoadl : FnScope ["machine","instruction"] ["machine","instruction"] (defScope sDLoadl) := ⟨rfl,rfl,rfl,by decide +kernel,rfl,by decide +kernel,by decide +kernel⟩
theorem ok_dLoadl {f : Addr} {fd : FuncData} (F : Fun K "do_loadl" "do_loadl" sDLoadl f fd) (T : MaT K mg CC CM) (TI : InsT K mg C aW wA) : FnOk P w K mg base CX0 1 f fd ["machine","instruction"] (spD C CC CM 4) := by
 refine F.ok scDLoadl (fun vs H Q E h => by obtain ⟨G,x,W,code,s,N,ops,rfl,_⟩ := h; rfl) (fun cdv A outer s0 H vs Q E hr h => ?_)
 obtain ⟨G,x,W,code,s,N,ops,rfl,I,iv,⟨dxi,l,hx,hl⟩,wf,st,hq,k⟩ := h
 obtain ⟨z,rfl,hz,en⟩ := wf1 wf (by omega)
 rw [en] at hl
 change sLoadl s.m z = 7 at st
 have ho : hasOwn s.m z = true := by
  unfold sLoadl at st
  cases h : hasOwn s.m z with
  | true => rfl
  | false => rw [h] at st; cases st
 obtain ⟨fr,fs,e,hi⟩ := own_fr ho
 obtain ⟨c,cs,o,os,dx,hc,hos,hcW,hoH,_⟩ := I.top e
 have hca := I.ca
 rw [hc] at hca
 refine ⟨_,pss_one (ps_expr (pe_bm PySem.F.plainAttrs_list PySem.F.slot_list_append PySem.F.type_list_append mt_append (pe_fld (pv 0) rfl) (pa_cons (pe_ix ix_list (pe_fld (pe_ix ix_list (pe_fld (pv 0) rfl) (pe_un un_neg pe_int) (fun _ _ => rfl)) rfl) (pe_ix ix_list (pe_fld (pv 1) rfl) pe_int (fun _ _ => rfl)) (fun _ _ => rfl)) pa_nil))),?_⟩
 refine ⟨_,rfl,_,_,_,_,_,rfl,I.ob,T.cM,T.nStack,mF_stack ..,⟨.inl ⟨rfl,_,SqL.of I.st⟩,⟨_,rfl,_,_,_,_,_,rfl,I.ob,T.cM,T.nCalls,mF_calls ..,⟨_,rfl,G.acl,_,_,_,rfl,rfl,SqL.of hca,atI_rev (g := V.ref) (j := 0) (z := c) rfl rfl,c,CC,dx,_,_,rfl,I.sub _ _ hcW,T.cC,T.nW,callF_own ..,⟨_,rfl,x,C,dxi,_,_,rfl,(I.sub _ _ hx),TI.cl,TI.nO,insF_operands ..,l,_,_,_,rfl,rfl,SqL.of (I.sub _ _ hl),(atI_nat (j := 0) rfl),⟨o,_,_,_,rfl,rfl,SqL.of hoH,atI_nat (j := z) (v := V.int (fr.2.getD z 0)) (by rw [List.getElem?_map,List.getD_eq_getElem?_getD,List.getElem?_eq_getElem hi]; rfl),G.as,_,_,rfl,rfl,I.st,I.len_s iv,?_⟩⟩⟩⟩⟩⟩
 rw [rev_snoc]
 have et : (topOwn s.m).getD z 0 = fr.2.getD z 0 := by unfold topOwn; rw [e]
 refine k _ _ G rfl (.upd ky_as) ?_
 show MaAt C CC CM W _ G code (dPush ((topOwn s.m).getD z 0) s) N
 rw [et]
 exact I.putS _
theorem scDStorel : FnScope ["machine","instruction","own"] ["machine","instruction"] (defScope sDStorel) := ⟨rfl,rfl,rfl,by decide +kernel,rfl,by decide +kernel,by decide +kernel⟩
theorem own_ix {l : List Int} {i : Nat} (h : i < l.length) : ixN (l.map V.int).length (i : Int) = some i := by
 unfold ixN
 rw [List.length_map,if_pos (by omega),if_pos (by omega)]
 simp
theorem ok_dStorel {f : Addr} {fd : FuncData} (F : Fun K "do_storel" "do_storel" sDStorel f fd) (T : MaT K mg CC CM) (TI : InsT K mg C aW wA) : FnOk P w K mg base CX0 1 f fd ["machine","instruction"] (spD C CC CM 5) := by
 refine F.ok scDStorel (fun vs H Q E h => by obtain ⟨G,x,W,code,s,N,ops,rfl,_⟩ := h; rfl) (fun cdv A outer s0 H vs Q E hr h => ?_)
 obtain ⟨G,x,W,code,s,N,ops,rfl,I,iv,⟨dxi,l,hx,hl⟩,wf,st,hq,k⟩ := h
 obtain ⟨z,rfl,hz,en⟩ := wf1 wf (by omega)
 rw [en] at hl
 change sStorel s.m z = 7 at st
 have ho : hasOwn s.m z = true := by
  unfold sStorel at st
  cases h : hasOwn s.m z with
  | true => rfl
  | false => rw [h] at st; cases st
 have st1 : sOne s.m = 7 := by unfold sStorel at st; rw [if_pos ho] at st; exact st
 obtain ⟨a,r,ea⟩ := one_st st1
 obtain ⟨fr,fs,e,hi⟩ := own_fr ho
 obtain ⟨c,cs,o,os,dx,hc,hos,hcW,hoH,_⟩ := I.top e
 have hca := I.ca
 rw [hc] at hca
 have hst := I.st
 rw [ea] at hst
 refine ⟨_,pss_cons (ps_set (i := 2) scDStorel.nd rfl (Or.inl rfl) (pe_fld (pe_ix ix_list (pe_fld (pv 0) rfl) (pe_un un_neg pe_int) (fun _ _ => rfl)) rfl))
  (pss_one (ps_asg (pe_bm0 PySem.F.plainAttrs_list PySem.F.slot_list_pop PySem.F.type_list_pop mt_pop (pe_fld (pv 0) rfl)) (pg_sub (pv 2) (pe_ix ix_list (pe_fld (pv 1) rfl) pe_int (fun _ _ => rfl)) set_list))),?_⟩
 refine ⟨_,rfl,_,_,_,_,_,rfl,I.ob,T.cM,T.nCalls,mF_calls ..,⟨_,rfl,G.acl,_,_,_,rfl,rfl,SqL.of hca,atI_rev (g := V.ref) (j := 0) (z := c) rfl rfl,c,CC,dx,_,_,rfl,I.sub _ _ hcW,T.cC,T.nW,callF_own ..,?_⟩⟩
 refine ⟨_,rfl,_,_,_,_,_,rfl,I.ob,T.cM,T.nStack,mF_stack ..,⟨.inl ⟨rfl,_,SqL.of hst⟩,G.as,_,_,rfl,rfl,hst,rev_last a r,?_⟩⟩
 rw [rev_drop]
 have I1 := I.putS r
 obtain ⟨c',cs',o',os',dx',hc',hos',_,hoH1,_⟩ := I1.top (f := fr) (fs := fs) e
 have eo : o' = o := by rw [hos] at hos'; cases hos'; rfl
 rw [eo] at hoH1
 refine ⟨_,rfl,⟨_,rfl,x,C,dxi,_,_,rfl,(I1.sub _ _ hx),TI.cl,TI.nO,insF_operands ..,l,_,_,_,rfl,rfl,SqL.of (I1.sub _ _ hl),(atI_nat (j := 0) rfl),⟨o,_,_,z,rfl,rfl,hoH1,own_ix hi,?_⟩⟩⟩
 rw [show (fr.2.map V.int).set z (V.int a) = (fr.2.set z a).map V.int from (List.map_set ..).symm]
 have mo : o ∈ ky CM G s := by
  unfold ky cells
  rw [hos,e]
  exact .tail _ (.tail _ (.tail _ (.tail _ (.tail _ (.tail _ (.tail _ (.head _)))))))
 have I2 := I1.putF (f := fr) (fs := fs) hos e (fr.2.set z a)
 have ed : doN 5 [z] s = { s with m := { s.m with stack := r,frames := (fr.1,fr.2.set z a) :: fs } } := by
  show dStorel z s = _
  unfold dStorel
  rw [ea,e]
  rfl
 refine k W _ G rfl ?_ (by rw [ed]; exact I2)
 have ek : ky CM G (doN 5 [z] s) = ky CM G s := by
  rw [ed]
  unfold ky cells
  rw [hos,e]
  rfl
 rw [ek]
 exact (Fr.upd ky_as).trans (.upd mo)
end
end Mc
namespace Mc
open PySem L2 Ins Ar R
section
variable {P : Program} {w : World} {K : PySem.W.Frag} {mg : Str → Option Value} {base : Heap} {C CC CM aW aA : Addr} {wA fA : Nat → Addr}
theorem scDOp : FnScope ["machine","instruction","b","a"] ["machine","instruction"] (defScope sDOp) := ⟨rfl,rfl,rfl,by decide +kernel,rfl,by decide +kernel,by decide +kernel⟩
theorem do_op {o : Nat} (ho : o ≤ 6) (ops : List Nat) (s : Sd) : doN (6 + o) ops s = dOp o s := by
 match o,ho with
 | 0,_ => rfl
 | 1,_ => rfl
 | 2,_ => rfl
 | 3,_ => rfl
 | 4,_ => rfl
 | 5,_ => rfl
 | 6,_ => rfl
 | o + 7,h => exact absurd h (by omega)
theorem ok_dOp {f fs : Addr} {fd fds : FuncData} {o : Nat} (ho : o ≤ 6) (F : Fun K "do_operation" "do_operation" sDOp f fd) (T : MaT K mg CC CM) (TI : InsT K mg C aW wA) (DS : Dn K mg "operation_result" sOpRes fs fds ["number","a","b"])
  (GS : FnOk P w K mg base CX0 2 fs fds ["number","a","b"] spRes) : FnOk P w K mg base CX0 3 f fd ["machine","instruction"] (spD C CC CM (6 + o)) := by
 refine F.ok scDOp (fun vs H Q E h => by obtain ⟨G,x,W,code,s,N,ops,rfl,_⟩ := h; rfl) (fun cdv A outer s0 H vs Q E hr h => ?_)
 obtain ⟨G,x,W,code,s,N,ops,rfl,I,iv,⟨dxi,l,hx,hl⟩,wf,st,hq,k⟩ := h
 rw [std_op ho] at st
 obtain ⟨b,a,r,e⟩ := (op_in st).2
 have ha : Sm a := sm_of (iv.sr a (by rw [e]; simp))
 have hb : Sm b := sm_of (iv.sr b (by rw [e]; simp))
 have hz : (o = 3 ∨ o = 4) → b ≠ 0 := fun h z => by
  unfold sOp at st
  rw [e] at st
  change stdP o a b = 7 at st
  unfold stdP at st
  rw [if_pos ⟨h,z⟩] at st
  cases st
 have hst := I.st
 rw [e] at hst
 refine ⟨_,pss_cons (ps_set (i := 2) scDOp.nd rfl (Or.inl rfl) (pe_bm0 PySem.F.plainAttrs_list PySem.F.slot_list_pop PySem.F.type_list_pop mt_pop (pe_fld (pv 0) rfl)))
  (pss_cons (ps_set (i := 3) scDOp.nd rfl (Or.inl rfl) (pe_bm0 PySem.F.plainAttrs_list PySem.F.slot_list_pop PySem.F.type_list_pop mt_pop (pe_fld (pv 0) rfl)))
  (pss_one (ps_expr (pe_bm PySem.F.plainAttrs_list PySem.F.slot_list_append PySem.F.type_list_append mt_append (pe_fld (pv 0) rfl) (pa_cons (pe_call GS hr (by rfl) DS.at_ DS.fn.kp DS.bd .nil pass0 (pa_cons (pe_fld (pv 1) rfl) (pa_cons (pv 3) (pa_cons (pv 2) pa_nil)))) pa_nil))))),?_⟩
 refine ⟨_,rfl,_,_,_,_,_,rfl,I.ob,T.cM,T.nStack,mF_stack ..,⟨.inl ⟨rfl,_,SqL.of hst⟩,G.as,_,_,rfl,rfl,hst,rev_last b (a :: r),?_⟩⟩
 rw [rev_drop]
 have I1 := I.putS (a :: r)
 refine ⟨_,rfl,_,_,_,_,_,rfl,I1.ob,T.cM,T.nStack,mF_stack ..,⟨.inl ⟨rfl,_,SqL.of I1.st⟩,G.as,_,_,rfl,rfl,I1.st,rev_last a r,?_⟩⟩
 rw [rev_drop,upd_upd]
 have I2 := I.putS r
 refine ⟨_,rfl,_,_,_,_,_,rfl,I2.ob,T.cM,T.nStack,mF_stack ..,⟨.inl ⟨rfl,_,SqL.of I2.st⟩,_,rfl,x,C,dxi,_,_,rfl,I2.sub _ _ hx,TI.cl,TI.nN,insF_number ..,_,rfl,_,rfl,o,a,b,rfl,ho,ha,hb,hz,G.as,_,_,rfl,rfl,I2.st,?_,?_⟩⟩
 ·have := iv.sl
  rw [e] at this
  have := line_big'
  rw [List.length_map,List.length_reverse]
  simp only [List.length_cons] at *
  omega
 ·rw [upd_upd]
  show Q .non (upd H G.as (.lst (r.reverse.map V.int ++ [V.int (resP o a b)])))
  rw [rev_snoc]
  have ed : doN (6 + o) ops s = { s with m := { s.m with stack := resP o a b :: r } } := by
   rw [do_op ho]
   unfold dOp
   rw [e]
   rfl
  have ek : ky CM G (doN (6 + o) ops s) = ky CM G s := by rw [ed]; rfl
  refine k W _ G rfl (by rw [ek]; exact .upd ky_as) (by rw [ed]; exact I.putS _)
theorem scDNot : FnScope ["machine","instruction"] ["machine","instruction"] (defScope sDNot) := ⟨rfl,rfl,rfl,by decide +kernel,rfl,by decide +kernel,by decide +kernel⟩
theorem ok_dNot {f fv : Addr} {fd fdv : FuncData} (F : Fun K "do_not" "do_not" sDNot f fd) (T : MaT K mg CC CM) (DV : Dn K mg "inverse" sInv fv fdv ["a"]) : FnOk P w K mg base CX0 2 f fd ["machine","instruction"] (spD C CC CM 13) := by
 have GV : FnOk P w K mg base CX0 1 fv fdv ["a"] spInv := ok_inv DV.fn
 refine F.ok scDNot (fun vs H Q E h => by obtain ⟨G,x,W,code,s,N,ops,rfl,_⟩ := h; rfl) (fun cdv A outer s0 H vs Q E hr h => ?_)
 obtain ⟨G,x,W,code,s,N,ops,rfl,I,iv,hx,wf,st,hq,k⟩ := h
 obtain ⟨a,r,e⟩ := one_st st
 have hst := I.st
 rw [e] at hst
 refine ⟨_,pss_one (ps_expr (pe_bm PySem.F.plainAttrs_list PySem.F.slot_list_append PySem.F.type_list_append mt_append (pe_fld (pv 0) rfl) (pa_cons (pe_call GV hr (by rfl) DV.at_ DV.fn.kp DV.bd .nil pass0 (pa_cons (pe_bm0 PySem.F.plainAttrs_list PySem.F.slot_list_pop PySem.F.type_list_pop mt_pop (pe_fld (pv 0) rfl)) pa_nil)) pa_nil))),?_⟩
 refine ⟨_,rfl,_,_,_,_,_,rfl,I.ob,T.cM,T.nStack,mF_stack ..,⟨.inl ⟨rfl,_,SqL.of hst⟩,⟨_,rfl,_,_,_,_,_,rfl,I.ob,T.cM,T.nStack,mF_stack ..,⟨.inl ⟨rfl,_,SqL.of hst⟩,G.as,_,_,rfl,rfl,hst,rev_last a r,?_⟩⟩⟩⟩
 rw [rev_drop]
 have I1 := I.putS r
 refine ⟨a,rfl,G.as,_,_,rfl,rfl,I1.st,?_,?_⟩
 ·have := iv.sl
  rw [e] at this
  have := line_big'
  rw [List.length_map,List.length_reverse]
  simp only [List.length_cons] at *
  omega
 ·rw [upd_upd,rev_snoc]
  have ed : doN 13 ops s = { s with m := { s.m with stack := (if a = 0 then 1 else 0) :: r } } := by
   show dNot s = _
   unfold dNot
   rw [e]
   rfl
  have ek : ky CM G (doN 13 ops s) = ky CM G s := by rw [ed]; rfl
  refine k W _ G rfl (by rw [ek]; exact .upd ky_as) (by rw [ed]; exact I.putS _)
theorem scDJmp : FnScope ["machine","instruction"] ["machine","instruction"] (defScope sDJmp) := ⟨rfl,rfl,rfl,by decide +kernel,rfl,by decide +kernel,by decide +kernel⟩
theorem ok_dJmp {f : Addr} {fd : FuncData} (F : Fun K "do_jmp" "do_jmp" sDJmp f fd) (T : MaT K mg CC CM) (TI : InsT K mg C aW wA) : FnOk P w K mg base CX0 1 f fd ["machine","instruction"] (spD C CC CM 14) := by
 refine F.ok scDJmp (fun vs H Q E h => by obtain ⟨G,x,W,code,s,N,ops,rfl,_⟩ := h; rfl) (fun cdv A outer s0 H vs Q E hr h => ?_)
 obtain ⟨G,x,W,code,s,N,ops,rfl,I,iv,⟨dxi,l,hx,hl⟩,wf,st,hq,k⟩ := h
 obtain ⟨z,rfl,en⟩ := wf4 wf (by omega)
 rw [en] at hl
 refine ⟨_,pss_one (ps_fld (pv 0) (pe_ix ix_list (pe_fld (pv 1) rfl) pe_int (fun _ _ => rfl)) rfl),?_⟩
 refine ⟨_,rfl,x,C,dxi,_,_,rfl,(I.sub _ _ hx),TI.cl,TI.nO,insF_operands ..,l,_,_,_,rfl,rfl,SqL.of (I.sub _ _ hl),(atI_nat (j := 0) rfl),⟨_,rfl,G.p,CM,G.dx,_,rfl,I.ob,T.cM,T.nAt,mF_len ..,?_⟩⟩
 exact k W _ G rfl (.upd ky_p) (I.putP z s.m.line)
theorem scDLine : FnScope ["machine","instruction"] ["machine","instruction"] (defScope sDLine) := ⟨rfl,rfl,rfl,by decide +kernel,rfl,by decide +kernel,by decide +kernel⟩
theorem ok_dLine {f : Addr} {fd : FuncData} (F : Fun K "do_line" "do_line" sDLine f fd) (T : MaT K mg CC CM) (TI : InsT K mg C aW wA) : FnOk P w K mg base CX0 1 f fd ["machine","instruction"] (spD C CC CM 20) := by
 refine F.ok scDLine (fun vs H Q E h => by obtain ⟨G,x,W,code,s,N,ops,rfl,_⟩ := h; rfl) (fun cdv A outer s0 H vs Q E hr h => ?_)
 obtain ⟨G,x,W,code,s,N,ops,rfl,I,iv,⟨dxi,l,hx,hl⟩,wf,st,hq,k⟩ := h
 obtain ⟨z,rfl,en⟩ := wf4 wf (by omega)
 rw [en] at hl
 refine ⟨_,pss_one (ps_fld (pv 0) (pe_ix ix_list (pe_fld (pv 1) rfl) pe_int (fun _ _ => rfl)) rfl),?_⟩
 refine ⟨_,rfl,x,C,dxi,_,_,rfl,(I.sub _ _ hx),TI.cl,TI.nO,insF_operands ..,l,_,_,_,rfl,rfl,SqL.of (I.sub _ _ hl),(atI_nat (j := 0) rfl),⟨_,rfl,G.p,CM,G.dx,_,rfl,I.ob,T.cM,T.nLine,mF_len ..,?_⟩⟩
 exact k W _ G rfl (.upd ky_p) (I.putP s.m.pc z)
theorem scDJz : FnScope ["machine","instruction"] ["machine","instruction"] (defScope sDJz) := ⟨rfl,rfl,rfl,by decide +kernel,rfl,by decide +kernel,by decide +kernel⟩
theorem ok_dJz {f : Addr} {fd : FuncData} (F : Fun K "do_jz" "do_jz" sDJz f fd) (T : MaT K mg CC CM) (TI : InsT K mg C aW wA) : FnOk P w K mg base CX0 1 f fd ["machine","instruction"] (spD C CC CM 15) := by
 refine F.ok scDJz (fun vs H Q E h => by obtain ⟨G,x,W,code,s,N,ops,rfl,_⟩ := h; rfl) (fun cdv A outer s0 H vs Q E hr h => ?_)
 obtain ⟨G,x,W,code,s,N,ops,rfl,I,iv,⟨dxi,l,hx,hl⟩,wf,st,hq,k⟩ := h
 obtain ⟨z,rfl,en⟩ := wf4 wf (by omega)
 rw [en] at hl
 obtain ⟨a,r,e⟩ := one_st st
 have hst := I.st
 rw [e] at hst
 refine ⟨_,pss_one (ps_if (pt_cmpR op_eq (pe_bm0 PySem.F.plainAttrs_list PySem.F.slot_list_pop PySem.F.type_list_pop mt_pop (pe_fld (pv 0) rfl)) pe_int (nomark _)) (pss_one (ps_fld (pv 0) (pe_ix ix_list (pe_fld (pv 1) rfl) pe_int (fun _ _ => rfl)) rfl)) pss_nil),?_⟩
 refine ⟨_,rfl,_,_,_,_,_,rfl,I.ob,T.cM,T.nStack,mF_stack ..,⟨.inl ⟨rfl,_,SqL.of hst⟩,G.as,_,_,rfl,rfl,hst,rev_last a r,rfl,_,rfl,?_⟩⟩
 rw [rev_drop,decV]
 have I1 := I.putS r
 have ed : doN 15 [z] s = { s with m := { s.m with stack := r,pc := if a = 0 then z else s.m.pc } } := by
  show dJz z s = _
  unfold dJz
  rw [e]
  rfl
 have ek : ky CM G (doN 15 [z] s) = ky CM G s := by rw [ed]; rfl
 by_cases c : a = 0
 ·rw [decide_eq_true c]
  refine iteT (⟨_,rfl,x,C,dxi,_,_,rfl,(I1.sub _ _ hx),TI.cl,TI.nO,insF_operands ..,l,_,_,_,rfl,rfl,SqL.of (I1.sub _ _ hl),(atI_nat (j := 0) rfl),⟨_,rfl,G.p,CM,G.dx,_,rfl,I1.ob,T.cM,T.nAt,mF_len ..,?_⟩⟩)
  rw [if_pos c] at ed
  exact k W _ G rfl (by rw [ek]; exact (Fr.upd ky_as).trans (.upd ky_p)) (by rw [ed]; exact I1.putP z s.m.line)
 ·rw [decide_eq_false c]
  rw [if_neg c] at ed
  exact iteF (k W _ G rfl (by rw [ek]; exact .upd ky_as) (by rw [ed]; exact I1))
theorem scDPut : FnScope ["machine","instruction"] ["machine","instruction"] (defScope sDPut) := ⟨rfl,rfl,rfl,by decide +kernel,rfl,by decide +kernel,by decide +kernel⟩
theorem ok_dPut {f : Addr} {fd : FuncData} (F : Fun K "do_put" "do_put" sDPut f fd) (T : MaT K mg CC CM) : FnOk P w K mg base CX0 1 f fd ["machine","instruction"] (spD C CC CM 18) := by
 refine F.ok scDPut (fun vs H Q E h => by obtain ⟨G,x,W,code,s,N,ops,rfl,_⟩ := h; rfl) (fun cdv A outer s0 H vs Q E hr h => ?_)
 obtain ⟨G,x,W,code,s,N,ops,rfl,I,iv,hx,wf,st,hq,k⟩ := h
 obtain ⟨a,r,e⟩ := one_st st
 have hst := I.st
 rw [e] at hst
 refine ⟨_,pss_one (ps_expr (pe_bm PySem.F.plainAttrs_list PySem.F.slot_list_append PySem.F.type_list_append mt_append (pe_fld (pv 0) rfl) (pa_cons (pe_bm0 PySem.F.plainAttrs_list PySem.F.slot_list_pop PySem.F.type_list_pop mt_pop (pe_fld (pv 0) rfl)) pa_nil))),?_⟩
 refine ⟨_,rfl,_,_,_,_,_,rfl,I.ob,T.cM,T.nOut,mF_out ..,⟨.inl ⟨rfl,_,SqL.of I.ou⟩,⟨_,rfl,_,_,_,_,_,rfl,I.ob,T.cM,T.nStack,mF_stack ..,⟨.inl ⟨rfl,_,SqL.of hst⟩,G.as,_,_,rfl,rfl,hst,rev_last a r,?_⟩⟩⟩⟩
 rw [rev_drop]
 have I1 := I.putS r
 refine ⟨G.ao,_,_,rfl,rfl,I1.ou,?_,?_⟩
 ·have := line_big'
  rw [List.length_map]
  show s.out.length < _
  omega
 ·rw [show s.out.map V.int ++ [V.int a] = (s.out ++ [a]).map V.int by simp]
  have ed : doN 18 ops s = { s with m := { s.m with stack := r },out := s.out ++ [a] } := by
   show dPut s = _
   unfold dPut
   rw [e]
   rfl
  have ek : ky CM G (doN 18 ops s) = ky CM G s := by rw [ed]; rfl
  exact k W _ G rfl (by rw [ek]; exact (Fr.upd ky_as).trans (.upd ky_ao)) (by rw [ed]; exact I1.putO _)
theorem scDGet : FnScope ["machine","instruction"] ["machine","instruction"] (defScope sDGet) := ⟨rfl,rfl,rfl,by decide +kernel,rfl,by decide +kernel,by decide +kernel⟩
theorem seq0 (n : Nat) : seqIndex? 0 (n + 1) = some 0 := by
 have := (ixN_seq (n := n + 1) (i := 0) (j := 0) (by unfold ixN; rw [if_pos (by omega),if_pos (by omega)]; rfl)).1
 exact this
theorem ok_dGet {f : Addr} {fd : FuncData} (F : Fun K "do_get" "do_get" sDGet f fd) (T : MaT K mg CC CM) : FnOk P w K mg base CX0 1 f fd ["machine","instruction"] (spD C CC CM 19) := by
 refine F.ok scDGet (fun vs H Q E h => by obtain ⟨G,x,W,code,s,N,ops,rfl,_⟩ := h; rfl) (fun cdv A outer s0 H vs Q E hr h => ?_)
 obtain ⟨G,x,W,code,s,N,ops,rfl,I,iv,hx,wf,st,hq,k⟩ := h
 change sGet s.m s.q = 7 at st
 obtain ⟨a,r,e⟩ : ∃ a r,s.q = a :: r := by
  unfold sGet at st
  cases e : s.q with
  | nil =>
   rw [e] at st
   split at st
   ·cases st
   ·cases st
  | cons a r => exact ⟨a,r,rfl⟩
 have hwa := I.wa
 rw [e] at hwa
 refine ⟨_,pss_one (ps_expr (pe_bm PySem.F.plainAttrs_list PySem.F.slot_list_append PySem.F.type_list_append mt_append (pe_fld (pv 0) rfl) (pa_cons (pe_bm PySem.F.plainAttrs_list PySem.F.slot_list_pop PySem.F.type_list_pop mt_popAt (pe_fld (pv 0) rfl) (pa_cons pe_int pa_nil)) pa_nil))),?_⟩
 refine ⟨_,rfl,_,_,_,_,_,rfl,I.ob,T.cM,T.nStack,mF_stack ..,⟨.inl ⟨rfl,_,SqL.of I.st⟩,⟨_,rfl,_,_,_,_,_,rfl,I.ob,T.cM,T.nWaiting,mF_waiting ..,⟨.inl ⟨rfl,_,SqL.of hwa⟩,G.aw,_,0,0,V.int a,rfl,rfl,hwa,by decide,by decide,seq0 _,rfl,?_⟩⟩⟩⟩
 show rAppend _ _ (upd H G.aw (.lst (r.map V.int))) _
 have I1 := I.putQ r
 refine ⟨G.as,_,_,rfl,rfl,I1.st,I.len_s iv,?_⟩
 rw [rev_snoc]
 have ed : doN 19 ops s = { s with m := { s.m with stack := a :: s.m.stack },q := r } := by
  show dGet s = _
  unfold dGet
  rw [e]
  rfl
 have ek : ky CM G (doN 19 ops s) = ky CM G s := by rw [ed]; rfl
 exact k W _ G rfl (by rw [ek]; exact (Fr.upd ky_aw).trans (.upd ky_as)) (by rw [ed]; exact I1.putS _)
theorem scDRet : FnScope ["machine","instruction"] ["machine","instruction"] (defScope sDRet) := ⟨rfl,rfl,rfl,by decide +kernel,rfl,by decide +kernel,by decide +kernel⟩
theorem ok_dRet {f : Addr} {fd : FuncData} (F : Fun K "do_ret" "do_ret" sDRet f fd) (T : MaT K mg CC CM) : FnOk P w K mg base CX0 1 f fd ["machine","instruction"] (spD C CC CM 17) := by
 refine F.ok scDRet (fun vs H Q E h => by obtain ⟨G,x,W,code,s,N,ops,rfl,_⟩ := h; rfl) (fun cdv A outer s0 H vs Q E hr h => ?_)
 obtain ⟨G,x,W,code,s,N,ops,rfl,I,iv,hx,wf,st,hq,k⟩ := h
 change sRet s.m = 7 at st
 obtain ⟨fr,fs,e⟩ : ∃ a r,s.m.frames = a :: r := by
  unfold sRet at st
  cases e : s.m.frames with
  | nil => rw [e] at st; cases st
  | cons a r => exact ⟨a,r,rfl⟩
 obtain ⟨c,cs,o,os,dx,hc,hos,hcW,hoH,hol,hcp⟩ := I.top e
 have hca := I.ca
 rw [hc] at hca
 refine ⟨_,pss_one (ps_fld (pv 0) (pe_fld (pe_bm0 PySem.F.plainAttrs_list PySem.F.slot_list_pop PySem.F.type_list_pop mt_pop (pe_fld (pv 0) rfl)) rfl) rfl),?_⟩
 refine ⟨_,rfl,_,_,_,_,_,rfl,I.ob,T.cM,T.nCalls,mF_calls ..,⟨.inl ⟨rfl,_,SqL.of hca⟩,G.acl,_,_,rfl,rfl,hca,rev_last c cs,?_⟩⟩
 rw [rev_drop]
 have I1 := I.pop e hc hos hol hcp
 refine ⟨c,CC,dx,_,_,rfl,I1.sub _ _ hcW,T.cC,T.nB,callF_back ..,_,rfl,G.p,CM,G.dx,_,rfl,I1.ob,T.cM,T.nAt,mF_len ..,?_⟩
 have ed : doN 17 ops s = { s with m := { s.m with pc := fr.1,frames := fs } } := by
  show dRet s = _
  unfold dRet
  rw [e]
  rfl
 refine k W _ { G with cs := cs,os := os } rfl ?_ (by rw [ed]; exact I1.putP fr.1 s.m.line)
 rw [ed]
 intro b u hb h1 h2
 have n1 : b ≠ G.acl := fun z => h1 (z ▸ ky_acl)
 have n2 : b ≠ G.p := fun z => h1 (z ▸ ky_p)
 refine ⟨by rw [upd_ne n2,upd_ne n1]; exact hb,fun z => h1 ?_,h2⟩
 unfold ky cells at z ⊢
 rw [hos,e]
 refine List.Sublist.subset ?_ z
 exact .cons₂ _ (.cons₂ _ (.cons₂ _ (.cons₂ _ (.cons₂ _ (.cons₂ _ (.cons₂ _ (.cons _ (List.Sublist.refl _))))))))
def spCallInit (CC : Addr) : Sp := fun vs H Q _ => ∃ (p dx o : Addr) (b : V),vs = [.ref p,b,.ref o] ∧ H p = some (.ins CC dx []) ∧ Q .non (upd H p (.ins CC dx (callF b o)))
theorem scCallInit : FnScope ["self","back","own"] ["self","back","own"] (defScope sCallInit) := ⟨rfl,rfl,rfl,by decide +kernel,rfl,by decide +kernel,by decide +kernel⟩
theorem ok_callInit {f : Addr} {fd : FuncData} (F : Fun K "__init__" "Call.__init__" sCallInit f fd) (T : MaT K mg CC CM) : FnOk P w K mg base CX0 1 f fd ["self","back","own"] (spCallInit CC) := by
 refine F.ok scCallInit (fun vs H Q E h => by obtain ⟨p,dx,o,b,rfl,_⟩ := h; rfl) (fun cdv A outer s0 H vs Q E hr h => ?_)
 obtain ⟨p,dx,o,b,rfl,hp,k⟩ := h
 refine ⟨_,pss_cons (ps_fld (pv 0) (pv 1) rfl) (pss_one (ps_fld (pv 0) (pv 2) rfl)),?_⟩
 refine ⟨_,rfl,_,rfl,p,CC,dx,[],rfl,hp,T.cC,T.nB,(by show 0 < 1000; decide),?_⟩
 refine ⟨_,rfl,_,rfl,p,CC,dx,_,rfl,upd_same,T.cC,T.nW,(by show 1 < 1000; decide),?_⟩
 show Q .non (upd (upd H p _) p _)
 rw [upd_upd]
 exact k
theorem ky_push {G : Gh} {s : Sd} {c o z : Addr} {a y : Nat} (h : z ∈ ky CM { G with cs := c :: G.cs,os := o :: G.os } (dCall a y s)) : z ∈ o :: ky CM G s := by
 have pm : (ky CM { G with cs := c :: G.cs,os := o :: G.os } (dCall a y s)).Perm (o :: ky CM G s) :=
  List.perm_middle (l₁ := [G.p,G.as,G.ash,G.acl,G.aw,G.ao,G.am])
 exact pm.mem_iff.mp h
theorem scDCall : FnScope ["machine","instruction","own","number"] ["machine","instruction"] (defScope sDCall) := ⟨rfl,rfl,rfl,by decide +kernel,rfl,by decide +kernel,by decide +kernel⟩
theorem take_rev {l : List Int} {y : Nat} (h : y ≤ l.length) : cutV (l.reverse.map V.int) (some (((l.reverse.map V.int).length : Int) - (y : Int))) none = (l.take y).reverse.map V.int := by
 have e : (((l.reverse.map V.int).length : Int) - (y : Int)) = ((l.length - y : Nat) : Int) := by rw [List.length_map,List.length_reverse]; omega
 rw [e,cut_from',← List.map_drop,List.drop_reverse,show l.length - (l.length - y) = y by omega]
theorem ok_dCall {f fI : Addr} {fd fdI : FuncData} (F : Fun K "do_call" "do_call" sDCall f fd) (T : MaT K mg CC CM) (TI : InsT K mg C aW wA) (MI : Mk K CC fI) (FI : Fun K "__init__" "Call.__init__" sCallInit fI fdI) (bI : Binds K fdI ["self","back","own"] []) : FnOk P w K mg base CX0 3 f fd ["machine","instruction"] (spD C CC CM 16) := by
 have GI : FnOk P w K mg base CX0 1 fI fdI ["self","back","own"] (spCallInit CC) := ok_callInit FI T
 refine F.ok scDCall (fun vs H Q E h => by obtain ⟨G,x,W,code,s,N,ops,rfl,_⟩ := h; rfl) (fun cdv A outer s0 H vs Q E hr h => ?_)
 obtain ⟨G,x,W,code,s,N,ops,rfl,I,iv,hx,wf,st,hq,k⟩ := h
 obtain ⟨a,y,rfl,hy,en⟩ := wf2 wf
 rw [en] at hx
 obtain ⟨dxi,l,hx,hl⟩ := hx
 change sCall s.m y = 7 at st
 have hle : y ≤ s.m.stack.length := by
  unfold sCall at st
  by_cases c : s.m.stack.length < y
  ·rw [if_pos c] at st; cases st
  ·omega
 refine ⟨_,pss_cons (ps_set (i := 2) scDCall.nd rfl (Or.inl rfl) (pe_slice sl_list (pe_fld (pv 0) rfl) (po_some (pe_op op_sub (pe_callB call_len_seq (by rfl) T.len PySem.boot_len (pa_cons (pe_fld (pv 0) rfl) pa_nil)) (pe_ix ix_list (pe_fld (pv 1) rfl) pe_int (fun _ _ => rfl)))) po_none))
  (pss_cons (ps_for PassesOwn.never rfl (pi_list (pv 2)) (pg_name (i := 3) scDCall.nd rfl (Or.inl rfl)) (pss_one (ps_expr (pe_bm0 PySem.F.plainAttrs_list PySem.F.slot_list_pop PySem.F.type_list_pop mt_pop (pe_fld (pv 0) rfl)))))
  (pss_cons (ps_expr (pe_bm PySem.F.plainAttrs_list PySem.F.slot_list_append PySem.F.type_list_append mt_append (pe_fld (pv 0) rfl) (pa_cons (pe_make MI GI hr (by rfl) T.mgC bI .nil pass0 (pa_cons (pe_fld (pv 0) rfl) (pa_cons (pv 2) pa_nil))) pa_nil)))
  (pss_one (ps_fld (pv 0) (pe_ix ix_list (pe_fld (pv 1) rfl) pe_int (fun _ _ => rfl)) rfl)))),?_⟩
 refine ⟨_,rfl,_,_,_,_,_,rfl,I.ob,T.cM,T.nStack,mF_stack ..,⟨_,rfl,_,_,_,_,_,rfl,I.ob,T.cM,T.nStack,mF_stack ..,⟨G.as,_,rfl,.inl (SqL.of I.st),⟨_,rfl,x,C,dxi,_,_,rfl,(I.sub _ _ hx),TI.cl,TI.nO,insF_operands ..,l,_,_,_,rfl,rfl,SqL.of (I.sub _ _ hl),(atI_nat (j := 1) rfl),⟨_,_,rfl,rfl,_,rfl,G.as,_,rfl,SqL.of I.st,fun o ho => ?_⟩⟩⟩⟩⟩
 rw [take_rev hle]
 have s1 : Same H (upd H o (.lst ((s.m.stack.take y).reverse.map V.int))) := Same.upd' (Same.refl H) ho
 have I1 := I.grow s1
 have ho1 : (upd H o (.lst ((s.m.stack.take y).reverse.map V.int))) o = some (.lst ((s.m.stack.take y).reverse.map V.int)) := upd_same
 revert s1 I1 ho1
 generalize upd H o (.lst ((s.m.stack.take y).reverse.map V.int)) = H1
 intro s1 I1 ho1
 have nko : o ∉ ky CM G s := fun z => by
  obtain ⟨u,e⟩ := I.some_of z
  rw [ho] at e; cases e
 have wo : W o = none := I.sub.free ho
 refine ⟨_,rfl,_,rfl,⟨_,SqL.of ho1⟩,for_list (K := K) (a := o) (xs := (s.m.stack.take y).reverse.map V.int) (fun j σ H2 => ∃ v3 : Option V,MaAt C CC CM W H2 G code { s with m := { s.m with stack := s.m.stack.drop j } } N ∧ H2 o = some (.lst ((s.m.stack.take y).reverse.map V.int)) ∧ Fr (ky CM G s) W H (ky CM G s) W H2 ∧ σ = [some (.ref G.p),some (.ref x),some (.ref o),v3])
  ⟨none,I1,ho1,.same s1,rfl⟩ (fun j σ H2 _ ⟨_,_,h2,_⟩ => SqL.of h2) ?_ ?_⟩
 ·rintro j v σ H2 hv ⟨v3,I2,h2,f2,rfl⟩
  have hj : j < y := by
   have := (List.getElem?_eq_some_iff.mp hv).1
   rw [List.length_map,List.length_reverse,List.length_take] at this
   omega
  obtain ⟨z,r,e⟩ : ∃ z r,s.m.stack.drop j = z :: r := by
   cases e : s.m.stack.drop j with
   | nil =>
    have := congrArg List.length e
    rw [List.length_drop] at this
    simp at this
    omega
   | cons z r => exact ⟨z,r,rfl⟩
  have hst := I2.st
  change H2 G.as = some (.lst ((s.m.stack.drop j).reverse.map V.int)) at hst
  rw [e] at hst
  refine ⟨_,rfl,_,_,_,_,_,rfl,I2.ob,T.cM,T.nStack,mF_stack ..,⟨.inl ⟨rfl,_,SqL.of hst⟩,G.as,_,_,rfl,rfl,hst,rev_last z r,?_⟩⟩
  rw [rev_drop]
  have er : r = s.m.stack.drop (j + 1) := by rw [← List.drop_drop,e]; rfl
  rw [er]
  refine ⟨some v,I2.putS _,?_,f2.trans (.upd ky_as),rfl⟩
  rw [upd_ne (ky_ne nko ky_as)]
  exact h2
 ·rintro σ H2 ⟨v3,I2,h2,f2,rfl⟩
  have elen : ((s.m.stack.take y).reverse.map V.int).length = y := by rw [List.length_map,List.length_reverse,List.length_take]; omega
  rw [elen] at I2
  refine ⟨_,rfl,_,_,_,_,_,rfl,I2.ob,T.cM,T.nCalls,mF_calls ..,⟨.inl ⟨rfl,_,SqL.of I2.ca⟩,⟨_,rfl,_,_,_,_,_,rfl,I2.ob,T.cM,T.nAt,mF_at ..,⟨_,rfl,fun c dx hc hdx ne => ?_⟩⟩⟩⟩
  refine ⟨c,dx,o,_,rfl,upd_same,rfl,?_⟩
  rw [upd_upd]
  have nco : o ≠ c := ne_of_none h2 hc
  have nko2 : o ≠ dx := ne_of_none h2 hdx
  have s3 : Same H2 (upd (upd H2 dx (.own c)) c (.ins CC dx (callF (.int (s.m.pc : Int)) o))) := fun b u e => by
   rw [upd_ne (ne_of_none e hc),upd_ne (ne_of_none e hdx)]; exact e
  have hc3 : (upd (upd H2 dx (.own c)) c (.ins CC dx (callF (.int (s.m.pc : Int)) o))) c = some (.ins CC dx (callF (.int (s.m.pc : Int)) o)) := upd_same
  have I3 := I2.grow s3
  have h3 := s3 _ _ h2
  have f3 := f2.trans (.same s3)
  revert s3 hc3 I3 h3 f3
  generalize upd (upd H2 dx (.own c)) c (.ins CC dx (callF (.int (s.m.pc : Int)) o)) = H3
  intro s3 hc3 I3 h3 f3
  have nkc : c ∉ ky CM G s := fun z => by
   obtain ⟨u,e⟩ := I2.some_of z
   rw [hc] at e; cases e
  refine ⟨G.acl,_,_,rfl,rfl,I3.ca,?_,?_⟩
  ·have := iv.fl
   have := line_big'
   rw [List.length_map,List.length_reverse,I.cs_len]
   omega
  ·rw [rev_snoc]
   have I4 := I3.push (l := (s.m.stack.take y).reverse) hc3 h3 nkc nko wo nco
   have f4 : Fr (ky CM G s) W H (o :: ky CM G s) (jn W (one1 c (.ins CC dx (callF (.int (s.m.pc : Int)) o)))) (upd H3 G.acl (.lst ((c :: G.cs).reverse.map V.ref))) := fun b u e h1 h2' => by
    obtain ⟨x1,x2,x3⟩ := f3 b u e h1 h2'
    have nb : b ≠ o := ne_of_none e ho
    have n2 : b ≠ c := fun z => by
     have := (f2 b u e h1 h2').1
     rw [z,hc] at this; cases this
    exact ⟨by rw [upd_ne (ky_ne h1 ky_acl)]; exact x1,fun z => by rcases List.mem_cons.mp z with z | z; exact nb z; exact h1 z,jn_none h2' (one_no n2)⟩
   have sW : Same W (jn W (one1 c (.ins CC dx (callF (.int (s.m.pc : Int)) o)))) := jn_l
   revert I4 f4 sW
   generalize jn W (one1 c (.ins CC dx (callF (.int (s.m.pc : Int)) o))) = W4
   generalize upd H3 G.acl (.lst ((c :: G.cs).reverse.map V.ref)) = H4
   intro I4 f4 sW
   refine ⟨_,rfl,x,C,dxi,_,_,rfl,(I4.sub _ _ (sW _ _ hx)),TI.cl,TI.nO,insF_operands ..,l,_,_,_,rfl,rfl,SqL.of (I4.sub _ _ (sW _ _ hl)),(atI_nat (j := 0) rfl),⟨_,rfl,G.p,CM,G.dx,_,rfl,I4.ob,T.cM,T.nAt,mF_len ..,?_⟩⟩
   refine k W4 _ { G with cs := c :: G.cs,os := o :: G.os } rfl ?_ (I4.putP a s.m.line)
   intro b u e h1 h2'
   obtain ⟨x1,x2,x3⟩ := f4 b u e h1 h2'
   exact ⟨by rw [upd_ne (ky_ne h1 ky_p)]; exact x1,fun z => x2 (ky_push z),x3⟩
end
end Mc
namespace Mc
open PySem L2 Ins Ar R
structure TabT (P : Program) (w : World) (K : PySem.W.Frag) (mg : Str → Option Value) (C CC CM aS aD : Addr) (fS fD : Nat → Addr) : Prop where
 std : mg "STANDINGS" = some (.ref aS)
 stdT : ∀ H,SqT K H aS ((List.range 21).map fun n => V.ref (fS n))
 act : mg "ACTIONS" = some (.ref aD)
 actT : ∀ H,SqT K H aD ((List.range 21).map fun n => V.ref (fD n))
 fns : ∀ (base : Heap) (n : Nat),n < 21 → ∃ fd,FnOk P w K mg base CX0 3 (fS n) fd ["machine","instruction"] (spI C CC CM n) ∧ PySem.W.keepIn K (.ref (fS n)) = true ∧ Binds K fd ["machine","instruction"] []
 fnd : ∀ (base : Heap) (n : Nat),n < 21 → ∃ fd,FnOk P w K mg base CX0 3 (fD n) fd ["machine","instruction"] (spD C CC CM n) ∧ PySem.W.keepIn K (.ref (fD n)) = true ∧ Binds K fd ["machine","instruction"] []
section
variable {P : Program} {w : World} {K : PySem.W.Frag} {mg : Str → Option Value} {base : Heap} {C CC CM aW aA aS aD : Addr} {wA fA fS fD : Nat → Addr}
theorem tab_ix {g : Nat → Addr} {n : Nat} (h : n < 21) : atI ((List.range 21).map fun n => V.ref (g n)) (n : Int) = some (V.ref (g n)) := by
 refine atI_nat ?_
 rw [List.getElem?_map,List.getElem?_range h]; rfl
def spHere (C CC CM : Addr) : Sp := fun vs H Q _ => ∃ (G : Gh) (W : Hp) (code : Ls.Bytes) (s : Sd) (N : Nat),vs = [.ref G.p] ∧ MaAt C CC CM W H G code s N ∧ N < 16000000 ∧
 ∀ W' H' G' v,G'.p = G.p → Fr (ky CM G s) W H (ky CM G' s) W' H' → MaAt C CC CM W' H' G' code s (N + 1) → MetAt C W' code s.m.pc v → Q v H'
theorem scHere : FnScope ["self"] ["self"] (defScope sMHere) := ⟨rfl,rfl,rfl,by decide +kernel,rfl,by decide +kernel,by decide +kernel⟩
theorem MaAt.more {W H : Hp} {G : Gh} {code : Ls.Bytes} {s : Sd} {N M : Nat} (I : MaAt C CC CM W H G code s N) (h : N ≤ M) : MaAt C CC CM W H G code s M :=
 ⟨I.sub,I.cd,I.cl,I.ce,I.nd,I.wn,I.ol,I.cp,I.mt,Nat.le_trans I.kl h⟩
theorem ok_here {f fA' : Addr} {fd fdA : FuncData} (F : Fun K "instruction_here" "Machine.instruction_here" sMHere f fd) (T : MaT K mg CC CM)
  (DA : Dn K mg "instruction_at" sAt fA' fdA ["code","at"]) (GA : FnOk P w K mg base CX0 3 fA' fdA ["code","at"] (spAt K C)) : FnOk P w K mg base CX0 4 f fd ["self"] (spHere C CC CM) := by
 refine F.ok scHere (fun vs H Q E h => by obtain ⟨G,W,code,s,N,rfl,_⟩ := h; rfl) (fun cdv A outer s0 H vs Q E hr h => ?_)
 obtain ⟨G,W,code,s,N,rfl,I,hN,k⟩ := h
 refine ⟨_,pss_cons (ps_if (pt_cmp (pc_dnotin (Nat.lt_of_le_of_lt (Nat.add_le_add_left (by decide : 1 ≤ 64) _) hr.units) (pe_fld (pv 0) rfl) (pe_fld (pv 0) rfl)))
   (pss_one (ps_dput (Nat.lt_of_le_of_lt (Nat.add_le_add_left (by decide : 1 ≤ 64) _) hr.units) (pe_fld (pv 0) rfl) (pe_fld (pv 0) rfl) (pe_call GA hr (by rfl) DA.at_ DA.fn.kp DA.bd .nil pass0 (pa_cons (pe_fld (pv 0) rfl) (pa_cons (pe_fld (pv 0) rfl) pa_nil))) rfl)) pss_nil)
  (pss_one (ps_ret (pe_dget (Nat.lt_of_le_of_lt (Nat.add_le_add_left (by decide : 1 ≤ 64) _) hr.units) (pe_fld (pv 0) rfl) (pe_fld (pv 0) rfl) (fun _ _ => rfl)))),?_⟩
 have big : sizeLine = 16777216 := sizeLine_eq
 have fin : ∀ W' H' G',G'.p = G.p → Fr (ky CM G s) W H (ky CM G' s) W' H' → MaAt C CC CM W' H' G' code s (N + 1) → (∃ v,valV G'.kvs (.inl (s.m.pc : Int)) = some v) → tRet (tDGet (tFld K (tVar 0) "met") (tFld K (tVar 0) "at")) { nx := fun _ H' => Q .non H',rt := Q } [some (.ref G.p)] H' := fun W' H' G' ep fr I' ⟨v,hv⟩ => by
  refine ⟨_,rfl,G.p,CM,G'.dx,_,_,rfl,by rw [← ep]; exact I'.ob,T.cM,T.nMet,mF_met ..,⟨_,rfl,G.p,CM,G'.dx,_,_,rfl,by rw [← ep]; exact I'.ob,T.cM,T.nAt,mF_at ..,⟨G'.am,v,rfl,?_,k W' H' G' v ep fr I' (I'.mt _ v hv)⟩⟩⟩
  rw [← hv]
  exact DGet.k (k := .inl (s.m.pc : Int)) I'.me
 refine ⟨_,rfl,_,_,_,_,_,rfl,I.ob,T.cM,T.nAt,mF_at ..,⟨_,rfl,_,_,_,_,_,rfl,I.ob,T.cM,T.nMet,mF_met ..,⟨G.am,valV G.kvs (.inl (s.m.pc : Int)),rfl,DGet.k (k := .inl (s.m.pc : Int)) I.me,_,rfl,?_⟩⟩⟩
 cases hv : valV G.kvs (.inl (s.m.pc : Int)) with
 | some v => exact iteF (fin W H G rfl (.same (Same.refl H)) (I.more (Nat.le_succ N)) ⟨v,hv⟩)
 | none =>
  refine iteT (⟨_,rfl,_,_,_,_,_,rfl,I.ob,T.cM,T.nCode,mF_code ..,⟨_,rfl,_,_,_,_,_,rfl,I.ob,T.cM,T.nAt,mF_at ..,⟨G.ac,code,s.m.pc,rfl,SqL.of (I.sub _ _ I.cd),I.cl,?_,?_⟩⟩⟩)
  ·intro hd H1 s1
   have I1 := I.grow s1
   refine ⟨_,rfl,_,_,_,_,_,rfl,I1.ob,T.cM,T.nMet,mF_met ..,⟨_,rfl,_,_,_,_,_,rfl,I1.ob,T.cM,T.nAt,mF_at ..,⟨G.am,_,rfl,DPut.k (k := .inl (s.m.pc : Int)) I1.me (by have := I.kl; omega),?_⟩⟩⟩
   have hm : MetAt C W code s.m.pc .non := by unfold MetAt; rw [hd]
   exact fin W _ { G with kvs := putK G.kvs (.inl (s.m.pc : Int)) .non } rfl ((Fr.same s1).trans (.upd ky_am)) (I1.meet hm) ⟨_,by show valV (putK _ _ _) _ = _; rw [valV_put,if_pos rfl]⟩
  ·intro n ops size hd H1 x dx l s1 hx0 hl0 hx hl
   have I1 := I.grow s1
   have sU : Same (jn (one1 x (.ins C dx (insF n l))) (one1 l (.lst ((Sh.numsOf n ops).map V.int)))) H1 := jn_sub (one_sub hx) (one_sub hl)
   have oU : ∀ b o,H b = some o → jn (one1 x (.ins C dx (insF n l))) (one1 l (.lst ((Sh.numsOf n ops).map V.int))) b = none := fun b o e => jn_none (one_no (ne_of_none e hx0)) (one_no (ne_of_none e hl0))
   have hU : InsAt C (jn (one1 x (.ins C dx (insF n l))) (one1 l (.lst ((Sh.numsOf n ops).map V.int)))) x n (Sh.numsOf n ops) := ⟨dx,l,jn_l _ _ one_at,jn_r (one_sub hx) (one_sub hl) _ _ one_at⟩
   revert sU oU hU
   generalize jn (one1 x (.ins C dx (insF n l))) (one1 l (.lst ((Sh.numsOf n ops).map V.int))) = U
   intro sU oU hU
   have I2 : MaAt C CC CM (jn W U) H1 G code s N := I1.ext jn_l (jn_sub I1.sub sU) (I.wneg oU)
   have f2 : Fr (ky CM G s) W H (ky CM G s) (jn W U) H1 := fun b o e h1 h2 => ⟨s1 _ _ e,h1,jn_none h2 (oU b o e)⟩
   refine ⟨_,rfl,_,_,_,_,_,rfl,I1.ob,T.cM,T.nMet,mF_met ..,⟨_,rfl,_,_,_,_,_,rfl,I1.ob,T.cM,T.nAt,mF_at ..,⟨G.am,_,rfl,DPut.k (k := .inl (s.m.pc : Int)) I1.me (by have := I.kl; omega),?_⟩⟩⟩
   have hm : MetAt C (jn W U) code s.m.pc (.ref x) := by unfold MetAt; rw [hd]; exact ⟨x,rfl,insAt_mono hU (jn_r I1.sub sU)⟩
   exact fin _ _ { G with kvs := putK G.kvs (.inl (s.m.pc : Int)) (.ref x) } rfl (f2.trans (.upd ky_am)) (I2.meet hm) ⟨_,by show valV (putK _ _ _) _ = _; rw [valV_put,if_pos rfl]⟩
def spMStd (C CC CM : Addr) : Sp := fun vs H Q _ => ∃ (G : Gh) (W : Hp) (code : Ls.Bytes) (s : Sd) (N : Nat),vs = [.ref G.p] ∧ MaAt C CC CM W H G code s N ∧ Inv s.m ∧ N < 16000000 ∧
 ∀ W' H' G',G'.p = G.p → Fr (ky CM G s) W H (ky CM G' s) W' H' → MaAt C CC CM W' H' G' code s (N + 1) → Q (.int ((stdM code s.m s.q : Nat) : Int)) H'
theorem scMStd : FnScope ["self","instruction"] ["self"] (defScope sMStd) := ⟨rfl,rfl,rfl,by decide +kernel,rfl,by decide +kernel,by decide +kernel⟩
theorem ok_mStd {f fH : Addr} {fd fdH : FuncData} (F : Fun K "standing" "Machine.standing" sMStd f fd) (T : MaT K mg CC CM) (TI : InsT K mg C aW wA) (TT : TabT P w K mg C CC CM aS aD fS fD)
  (MH : Meth K CM "instruction_here" fH) (GH : FnOk P w K mg base CX0 4 fH fdH ["self"] (spHere C CC CM)) (bH : Binds K fdH ["self"] []) : FnOk P w K mg base CX0 5 f fd ["self"] (spMStd C CC CM) := by
 refine F.ok scMStd (fun vs H Q E h => by obtain ⟨G,W,code,s,N,rfl,_⟩ := h; rfl) (fun cdv A outer s0 H vs Q E hr h => ?_)
 obtain ⟨G,W,code,s,N,rfl,I,iv,hN,k⟩ := h
 obtain ⟨t4,h4⟩ := T.im
 have hr3 : Room 3 _ := hr.mono (by decide)
 refine ⟨_,pss_cons (ps_set (i := 1) scMStd.nd rfl (Or.inl rfl) (pe_meth0 (pv 0) T.cM MH GH hr bH .nil pass0))
  (pss_cons (ps_if (pt_cmpR op_isN (pv 1) pe_non (nomark _)) (pss_one (ps_ret (pe_glob (v := V.int 4) (by rfl) h4 ⟨t4,rfl⟩))) pss_nil)
  (pss_one (ps_ret (pe_callV (pe_ix ix_tup (pe_glob (v := V.ref aS) (by rfl) TT.std rfl) (pe_fld (pv 1) rfl) (fun _ _ => rfl)) (pa_cons (pv 0) (pa_cons (pv 1) pa_nil)))))),?_⟩
 refine ⟨_,rfl,G.p,G.dx,_,rfl,I.ob,mF_here,G,W,code,s,N,rfl,I,hN,fun W1 H1 G1 v ep f1 I1 hv => ?_⟩
 refine ⟨_,rfl,rfl,_,rfl,?_⟩
 have kk := k W1 H1 G1 ep f1 I1
 unfold MetAt at hv
 cases hd : Ls.decode code s.m.pc with
 | none =>
  rw [hd] at hv
  subst hv
  rw [stdM_none hd] at kk
  exact iteT kk
 | some y =>
  obtain ⟨n,ops,size⟩ := y
  rw [hd] at hv
  obtain ⟨x,rfl,hx⟩ := hv
  rw [stdM_some hd] at kk
  obtain ⟨wf,hn,_⟩ := wf_of hd
  obtain ⟨fd',G',hk,hb⟩ := TT.fns base n hn
  obtain ⟨dxi,l,hx1,hl1⟩ := id hx
  rw [show decide (V.ref x = V.non) = false from decide_eq_false (fun z => nomatch z)]
  refine iteF ⟨_,rfl,x,C,dxi,_,_,rfl,I1.sub _ _ hx1,TI.cl,TI.nN,insF_number ..,aS,_,_,_,rfl,rfl,TT.stdT _,tab_ix hn,fS n,fd',_,_,3,CX0,_,rfl,G',hr3,hk,hb,pass0,_,rfl,_,rfl,G1,x,W1,code,s,N + 1,ops,by rw [ep]; rfl,I1,iv,hx,wf,fun H2 s2 => ?_⟩
  have kk' := k W1 H2 G1 ep (f1.trans (.same s2)) (I1.grow s2)
  rw [stdM_some hd] at kk'
  exact kk'
def spTell : Sp := fun vs H Q _ => ∃ (st l : Nat),vs = [.int (st : Int),.int (l : Int)] ∧ ∀ p,H p = none → Q (.ref p) (upd H p (.lst [.int (st : Int),.int ((if 1 ≤ st ∧ st ≤ 5 then l else 0 : Nat) : Int)]))
theorem scTell : FnScope ["standing","line"] ["standing","line"] (defScope sTellS) := ⟨rfl,rfl,rfl,by decide +kernel,rfl,by decide +kernel,by decide +kernel⟩
theorem ok_tell {f : Addr} {fd : FuncData} (F : Fun K "standing_and_line" "standing_and_line" sTellS f fd) (T : MaT K mg CC CM) (ho : ∃ t,mg "OUT_OF_RANGE" = some (.int 1 t)) : FnOk P w K mg base CX0 1 f fd ["standing","line"] spTell := by
 refine F.ok scTell (fun vs H Q E h => by obtain ⟨st,l,rfl,_⟩ := h; rfl) (fun cdv A outer s0 H vs Q E hr h => ?_)
 obtain ⟨st,l,rfl,k⟩ := h
 obtain ⟨t5,h5⟩ := T.fs
 obtain ⟨t1,h1⟩ := ho
 refine ⟨_,pss_cons (ps_if (pt_chain op_le op_le (pe_glob (v := V.int 1) (by rfl) h1 ⟨t1,rfl⟩) (pv 0) (pe_glob (v := V.int 5) (by rfl) h5 ⟨t5,rfl⟩)) (pss_one (ps_ret (pe_lst (pa_cons (pv 0) (pa_cons (pv 1) pa_nil))))) pss_nil)
  (pss_one (ps_ret (pe_lst (pa_cons (pv 0) (pa_cons pe_int pa_nil))))),?_⟩
 have h2l : (2 : Nat) ≤ sizeLine := by have := line_big'; omega
 refine ⟨_,rfl,_,_,rfl,rfl,_,rfl,?_⟩
 by_cases c1 : 1 ≤ st
 ·rw [decide_eq_true (by omega)]
  refine iteT ⟨_,_,rfl,rfl,_,rfl,?_⟩
  by_cases c2 : st ≤ 5
  ·rw [decide_eq_true (by omega)]
   rw [if_pos ⟨c1,c2⟩] at k
   exact iteT ⟨_,rfl,_,rfl,h2l,k⟩
  ·rw [decide_eq_false (by omega)]
   rw [if_neg (fun z => c2 z.2)] at k
   exact iteF ⟨_,rfl,h2l,k⟩
 ·rw [decide_eq_false (by omega)]
  rw [if_neg (fun z => c1 z.1)] at k
  exact iteF ⟨_,rfl,iteF ⟨_,rfl,h2l,k⟩⟩
def spMTold (C CC CM : Addr) : Sp := fun vs H Q _ => ∃ (G : Gh) (W : Hp) (code : Ls.Bytes) (s : Sd) (N : Nat),vs = [.ref G.p] ∧ MaAt C CC CM W H G code s N ∧ Inv s.m ∧ N < 16000000 ∧
 ∀ W' H' G' p,G'.p = G.p → Fr (ky CM G s) W H (ky CM G' s) W' H' → MaAt C CC CM W' H' G' code s (N + 1) → (∀ b o,H b = some o → b ∉ ky CM G s → W b = none → b ≠ p) → W' p = none → p ∉ ky CM G' s → H' p = some (.lst [.int (((Ls.stateOf code s.m s.q).1 : Nat) : Int),.int (((Ls.stateOf code s.m s.q).2 : Nat) : Int)]) → Q (.ref p) H'
theorem scMTold : FnScope ["self"] ["self"] (defScope sMTold) := ⟨rfl,rfl,rfl,by decide +kernel,rfl,by decide +kernel,by decide +kernel⟩
theorem ok_mTold {f fS' fT : Addr} {fd fdS fdT : FuncData} (F : Fun K "told" "Machine.told" sMTold f fd) (T : MaT K mg CC CM) (ho : ∃ t,mg "OUT_OF_RANGE" = some (.int 1 t)) (DT : Dn K mg "standing_and_line" sTellS fT fdT ["standing","line"])
  (MS : Meth K CM "standing" fS') (GS : FnOk P w K mg base CX0 5 fS' fdS ["self"] (spMStd C CC CM)) (bS : Binds K fdS ["self"] []) : FnOk P w K mg base CX0 6 f fd ["self"] (spMTold C CC CM) := by
 have GT : FnOk P w K mg base CX0 1 fT fdT ["standing","line"] spTell := ok_tell DT.fn T ho
 refine F.ok scMTold (fun vs H Q E h => by obtain ⟨G,W,code,s,N,rfl,_⟩ := h; rfl) (fun cdv A outer s0 H vs Q E hr h => ?_)
 obtain ⟨G,W,code,s,N,rfl,I,iv,hN,k⟩ := h
 have hr1 : Room 1 _ := hr.mono (by decide)
 refine ⟨_,pss_one (ps_ret (pe_call GT hr1 (by rfl) DT.at_ DT.fn.kp DT.bd .nil pass0 (pa_cons (pe_meth0 (pv 0) T.cM MS GS hr bS .nil pass0) (pa_cons (pe_fld (pv 0) rfl) pa_nil)))),?_⟩
 refine ⟨_,rfl,G.p,G.dx,_,rfl,I.ob,mF_std,G,W,code,s,N,rfl,I,iv,hN,fun W1 H1 G1 ep f1 I1 => ?_⟩
 refine ⟨_,rfl,G.p,CM,G1.dx,_,_,rfl,by rw [← ep]; exact I1.ob,T.cM,T.nLine,mF_line ..,⟨_,_,rfl,fun p hp => ?_⟩⟩
 have s2 : Same H1 (upd H1 p (.lst [.int ((stdM code s.m s.q : Nat) : Int),.int ((if 1 ≤ stdM code s.m s.q ∧ stdM code s.m s.q ≤ 5 then s.m.line else 0 : Nat) : Int)])) := Same.upd' (Same.refl H1) hp
 have np : p ∉ ky CM G1 s := fun z => by
  obtain ⟨u,e⟩ := I1.some_of z
  rw [hp] at e; cases e
 have hp0 : ∀ b o,H b = some o → b ∉ ky CM G s → W b = none → b ≠ p := fun b o e h1 h2 => ne_of_none (f1 b o e h1 h2).1 hp
 refine k W1 _ G1 p ep (f1.trans (.same s2)) (I1.grow s2) hp0 (I1.sub.free hp) np ?_
 rw [state_eq iv]
 exact upd_same
end
end Mc
namespace Mc
open PySem L2 Ins Ar R
section
variable {P : Program} {w : World} {K : PySem.W.Frag} {mg : Str → Option Value} {base : Heap} {C CC CM aW aA aS aD : Addr} {wA fA fS fD : Nat → Addr}
theorem MaAt.newOut {W H : Hp} {G : Gh} {code : Ls.Bytes} {s : Sd} {N : Nat} (I : MaAt C CC CM W H G code s N) {a : Addr} (ha : H a = none) :
  MaAt C CC CM W (upd (upd H a (.lst [])) G.p (.ins CM G.dx (mF G.ac G.am (.int (s.m.pc : Int)) G.as G.ash G.acl (.int (s.m.line : Int)) G.aw a))) { G with ao := a } code { s with out := [] } N := by
 have nd := I.nd
 have np : ∀ b ∈ ky CM G s,b ≠ a := fun b hb z => by
  obtain ⟨u,e⟩ := I.some_of hb
  rw [z,ha] at e; cases e
 have n0 : ∀ x ∈ (cells CM G s).tail,x.1 ≠ G.p := fun x hx z => by
  have h := (List.nodup_cons.mp (show (G.p :: ((cells CM G s).tail).map Prod.fst).Nodup from nd)).1
  exact h (z ▸ List.mem_map.mpr ⟨x,hx,rfl⟩)
 have key : ∀ x ∈ (cells CM G s).tail,(upd (upd H a (.lst [])) G.p (.ins CM G.dx (mF G.ac G.am (.int (s.m.pc : Int)) G.as G.ash G.acl (.int (s.m.line : Int)) G.aw a))) x.1 = some x.2 := fun x hx => by
  have hx' : x ∈ cells CM G s := .tail _ hx
  rw [upd_ne (n0 x hx),upd_ne (np x.1 (List.mem_map.mpr ⟨x,hx',rfl⟩))]
  exact I.ce x hx'
 have ek : ky CM { G with ao := a } { s with out := [] } = G.p :: G.as :: G.ash :: G.acl :: G.aw :: a :: G.am :: (G.os.zip (s.m.frames.map ownL)).map Prod.fst := rfl
 have ek0 : (cells CM G s).map Prod.fst = G.p :: G.as :: G.ash :: G.acl :: G.aw :: G.ao :: G.am :: (G.os.zip (s.m.frames.map ownL)).map Prod.fst := rfl
 have wa : W a = none := I.sub.free ha
 have wp : W G.p = none := I.wn _ (.head _)
 have npa : a ≠ G.p := fun z => np G.p (.head _) z.symm
 refine ⟨Same.upd' (Same.upd' I.sub wa) wp,I.cd,I.cl,?_,?_,?_,I.ol,I.cp,I.mt,I.kl⟩
 ·intro x hx
  rcases hx with _ | ⟨_,hx⟩
  ·exact upd_same
  rcases hx with _ | ⟨_,hx⟩
  ·exact key _ (.head _)
  rcases hx with _ | ⟨_,hx⟩
  ·exact key _ (.tail _ (.head _))
  rcases hx with _ | ⟨_,hx⟩
  ·exact key _ (.tail _ (.tail _ (.head _)))
  rcases hx with _ | ⟨_,hx⟩
  ·exact key _ (.tail _ (.tail _ (.tail _ (.head _))))
  rcases hx with _ | ⟨_,hx⟩
  ·exact (upd_ne npa).trans upd_same
  rcases hx with _ | ⟨_,hx⟩
  ·exact key _ (.tail _ (.tail _ (.tail _ (.tail _ (.tail _ (.head _))))))
  ·exact key _ (.tail _ (.tail _ (.tail _ (.tail _ (.tail _ (.tail _ hx))))))
 ·show (G.p :: G.as :: G.ash :: G.acl :: G.aw :: a :: G.am :: (G.os.zip (s.m.frames.map ownL)).map Prod.fst).Nodup
  have sub : (G.p :: G.as :: G.ash :: G.acl :: G.aw :: G.am :: (G.os.zip (s.m.frames.map ownL)).map Prod.fst).Sublist ((cells CM G s).map Prod.fst) :=
   .cons₂ _ (.cons₂ _ (.cons₂ _ (.cons₂ _ (.cons₂ _ (.cons _ (List.Sublist.refl _))))))
  have pm : (G.p :: G.as :: G.ash :: G.acl :: G.aw :: a :: G.am :: (G.os.zip (s.m.frames.map ownL)).map Prod.fst).Perm (a :: G.p :: G.as :: G.ash :: G.acl :: G.aw :: G.am :: (G.os.zip (s.m.frames.map ownL)).map Prod.fst) :=
   List.perm_middle (l₁ := [G.p,G.as,G.ash,G.acl,G.aw])
  exact pm.nodup_iff.mpr (List.nodup_cons.mpr ⟨fun z => np a (sub.subset z) rfl,nd.sublist sub⟩)
 ·intro b hb
  have sub : (G.p :: G.as :: G.ash :: G.acl :: G.aw :: G.am :: (G.os.zip (s.m.frames.map ownL)).map Prod.fst).Sublist ((cells CM G s).map Prod.fst) :=
   .cons₂ _ (.cons₂ _ (.cons₂ _ (.cons₂ _ (.cons₂ _ (.cons _ (List.Sublist.refl _))))))
  have pm : (G.p :: G.as :: G.ash :: G.acl :: G.aw :: a :: G.am :: (G.os.zip (s.m.frames.map ownL)).map Prod.fst).Perm (a :: G.p :: G.as :: G.ash :: G.acl :: G.aw :: G.am :: (G.os.zip (s.m.frames.map ownL)).map Prod.fst) :=
   List.perm_middle (l₁ := [G.p,G.as,G.ash,G.acl,G.aw])
  rcases List.mem_cons.mp (pm.mem_iff.mp hb) with e | e
  ·rw [e]; exact wa
  ·exact I.wn b (sub.subset e)
theorem newOut_fr {W H : Hp} {G : Gh} {s : Sd} {a : Addr} {o u : HO} (ha : H a = none) : Fr (ky CM G s) W H (ky CM { G with ao := a } { s with out := [] }) W (upd (upd H a o) G.p u) := fun b x e h1 h2 => by
 have nb : b ≠ a := ne_of_none e ha
 refine ⟨by rw [upd_ne (ky_ne h1 ky_p),upd_ne nb]; exact e,fun z => ?_,h2⟩
 have sub : (G.p :: G.as :: G.ash :: G.acl :: G.aw :: G.am :: (G.os.zip (s.m.frames.map ownL)).map Prod.fst).Sublist (ky CM G s) :=
  .cons₂ _ (.cons₂ _ (.cons₂ _ (.cons₂ _ (.cons₂ _ (.cons _ (List.Sublist.refl _))))))
 have pm : (ky CM { G with ao := a } { s with out := [] }).Perm (a :: G.p :: G.as :: G.ash :: G.acl :: G.aw :: G.am :: (G.os.zip (s.m.frames.map ownL)).map Prod.fst) :=
  List.perm_middle (l₁ := [G.p,G.as,G.ash,G.acl,G.aw])
 rcases List.mem_cons.mp (pm.mem_iff.mp z) with e | e
 ·exact nb e
 ·exact h1 (sub.subset e)
def spMGo (C CC CM : Addr) : Sp := fun vs H Q _ => ∃ (G : Gh) (W : Hp) (code : Ls.Bytes) (s : Sd) (N n cap : Nat),vs = [.ref G.p,.int (n : Int),.int (cap : Int)] ∧ MaAt C CC CM W H G code s N ∧ Inv s.m ∧ (∀ z ∈ s.q,Ls.inRange z = true) ∧ n ≤ 20000 ∧ N + 2 * n < 16000000 ∧
 ∀ W' H' G',G'.p = G.p → Fr (ky CM G s) W H (ky CM G' (goP code n cap ⟨s.m,s.q,[]⟩)) W' H' → MaAt C CC CM W' H' G' code (goP code n cap ⟨s.m,s.q,[]⟩) (N + 2 * n) → Q .non H'
theorem scMGo : FnScope ["self","n","cap","count","instruction"] ["self","n","cap"] (defScope sMGo) := ⟨rfl,rfl,rfl,by decide +kernel,rfl,by decide +kernel,by decide +kernel⟩
theorem goP_stop {code : Ls.Bytes} {k cap : Nat} {s : Sd} (h : stdM code s.m s.q ≠ 7) : goP code k cap s = s := by
 cases k with
 | zero => rfl
 | succ k =>
  unfold goP
  cases hd : Ls.decode code s.m.pc with
  | none => rfl
  | some x =>
   obtain ⟨n,ops,size⟩ := x
   rw [stdM_some hd] at h
   dsimp only
   rw [if_pos h]
theorem goP_cap {code : Ls.Bytes} {k cap n size : Nat} {ops : List Nat} {s : Sd} (hd : Ls.decode code s.m.pc = some (n,ops,size)) (h : n = 18 ∧ s.out.length = cap) : goP code k cap s = s := by
 cases k with
 | zero => rfl
 | succ k =>
  unfold goP
  rw [hd]
  dsimp only
  by_cases c : stdN n ops s.m s.q ≠ 7
  ·rw [if_pos c]
  ·rw [if_neg c,if_pos h]
theorem goP_next {code : Ls.Bytes} {k cap n size : Nat} {ops : List Nat} {s : Sd} (hd : Ls.decode code s.m.pc = some (n,ops,size)) (h7 : stdN n ops s.m s.q = 7) (h : ¬ (n = 18 ∧ s.out.length = cap)) : goP code (k + 1) cap s = goP code k cap (doN n ops ⟨{ s.m with pc := s.m.pc + size },s.q,s.out⟩) := by
 rw [goP,hd]
 dsimp only
 rw [if_neg (by simpa using h7),if_neg h]
theorem out_len {n : Nat} {ops : List Nat} (s : Sd) : (doN n ops s).out.length ≤ s.out.length + 1 := by
 unfold doN
 split <;> first | exact Nat.le_succ _ | (show (s.out ++ [_]).length ≤ _; rw [List.length_append]; exact Nat.le_refl _)
theorem ok_mGo {f fS' fH : Addr} {fd fdS fdH : FuncData} (F : Fun K "go" "Machine.go" sMGo f fd) (T : MaT K mg CC CM) (TI : InsT K mg C aW wA) (TT : TabT P w K mg C CC CM aS aD fS fD)
  (MS : Meth K CM "standing" fS') (GS : FnOk P w K mg base CX0 5 fS' fdS ["self"] (spMStd C CC CM)) (bS : Binds K fdS ["self"] [])
  (MH : Meth K CM "instruction_here" fH) (GH : FnOk P w K mg base CX0 4 fH fdH ["self"] (spHere C CC CM)) (bH : Binds K fdH ["self"] []) : FnOk P w K mg base CX0 6 f fd ["self","n","cap"] (spMGo C CC CM) := by
 refine F.ok scMGo (fun vs H Q E h => by obtain ⟨G,W,code,s,N,n,cap,rfl,_⟩ := h; rfl) (fun cdv A outer s0 H vs Q E hr h => ?_)
 obtain ⟨G,W,code,s,N,n,cap,rfl,I,iv,qr,hn,hN,k⟩ := h
 obtain ⟨t7,h7⟩ := T.go
 obtain ⟨t18,h18⟩ := T.pu
 have hr3 : Room 3 _ := hr.mono (by decide)
 have hr4 : Room 4 _ := hr.mono (by decide)
 refine ⟨_,pss_cons (ps_fld (pv 0) (pe_lst pa_nil) rfl)
  (pss_one (ps_for PassesOwn.never rfl (pi_range1 (by rfl) T.rng (pa_cons (pv 1) pa_nil)) (pg_name (i := 3) scMGo.nd rfl (Or.inl rfl))
   (pss_cons (ps_if (pt_cmpR op_ne (pe_meth0 (pv 0) T.cM MS GS hr bS .nil pass0) (pe_glob (v := V.int 7) (by rfl) h7 ⟨t7,rfl⟩) (nomark _)) (pss_one ps_retN) pss_nil)
   (pss_cons (ps_set (i := 4) scMGo.nd rfl (Or.inl rfl) (pe_meth0 (pv 0) T.cM MH GH hr4 bH .nil pass0))
   (pss_cons (ps_if (pw_and (pt_cmpR op_eq (pe_fld (pv 4) rfl) (pe_glob (v := V.int 18) (by rfl) h18 ⟨t18,rfl⟩) (nomark _)) (pw_and1 (pt_cmpR op_eq (pe_callB call_len_seq (by rfl) T.len PySem.boot_len (pa_cons (pe_fld (pv 0) rfl) pa_nil)) (pv 2) (nomark _)))).pt (pss_one ps_retN) pss_nil)
   (pss_cons (ps_fld (pv 0) (pe_op op_add (pe_fld (pv 0) rfl) (pe_fld (pv 4) rfl)) rfl)
   (pss_one (ps_expr (pe_callV (pe_ix ix_tup (pe_glob (v := V.ref aD) (by rfl) TT.act rfl) (pe_fld (pv 4) rfl) (fun _ _ => rfl)) (pa_cons (pv 0) (pa_cons (pv 4) pa_nil))))))))))),?_⟩
 refine ⟨zero_line,fun a ha => ?_⟩
 have nap : G.p ≠ a := ne_of_none I.ob ha
 refine ⟨_,rfl,G.p,CM,G.dx,_,rfl,by rw [upd_ne nap]; exact I.ob,T.cM,T.nOut,mF_len ..,?_⟩
 have I0 := I.newOut ha
 have f0 : Fr (ky CM G s) W H _ W _ := newOut_fr (CM := CM) (s := s) (o := .lst []) (u := .ins CM G.dx (mF G.ac G.am (.int (s.m.pc : Int)) G.as G.ash G.acl (.int (s.m.line : Int)) G.aw a)) ha
 revert I0 f0
 rw [mP_out]
 generalize upd (upd H a (.lst [])) G.p (.ins CM G.dx (mF G.ac G.am (.int (s.m.pc : Int)) G.as G.ash G.acl (.int (s.m.line : Int)) G.aw a)) = H0
 intro I0 f0
 refine ⟨_,rfl,_,rfl,by omega,by omega,?_⟩
 have en : ((n : Int)).toNat = n := by omega
 rw [en]
 refine for_range (fun j σ H2 => ∃ (v3 v4 : Option V) (W2 : Hp) (G2 : Gh) (s2 : Sd),MaAt C CC CM W2 H2 G2 code s2 (N + 2 * j) ∧ G2.p = G.p ∧ Inv s2.m ∧ (∀ z ∈ s2.q,Ls.inRange z = true) ∧ s2.out.length ≤ j ∧ goP code n cap ⟨s.m,s.q,[]⟩ = goP code (n - j) cap s2 ∧ Fr (ky CM G s) W H (ky CM G2 s2) W2 H2 ∧ σ = [some (.ref G.p),some (.int (n : Int)),some (.int (cap : Int)),v3,v4])
  ⟨none,none,W,_,_,I0,rfl,iv,qr,Nat.le_refl _,rfl,f0,rfl⟩ ?_ ?_
 ·rintro j σ H2 hj ⟨v3,v4,W2,G2,s2,I2,ep,iv2,qr2,ol2,eg,f2,rfl⟩
  have eN : n - j = (n - (j + 1)) + 1 := by omega
  refine ⟨_,rfl,G.p,G2.dx,_,rfl,by rw [← ep]; exact I2.ob,mF_std,G2,W2,code,s2,N + 2 * j,by rw [ep]; rfl,I2,iv2,by omega,fun W3 H3 G3 ep3 f3 I3 => ?_⟩
  refine ⟨rfl,_,rfl,?_⟩
  show if (!decide (V.int _ = V.int 7)) = true then _ else _
  rw [decV]
  by_cases c7 : stdM code s2.m s2.q = 7
  ·rw [decide_eq_true (by omega)]
   refine iteF ?_
   obtain ⟨n',ops,size,hd⟩ : ∃ n' ops size,Ls.decode code s2.m.pc = some (n',ops,size) := by
    cases hd : Ls.decode code s2.m.pc with
    | none => rw [stdM_none hd] at c7; cases c7
    | some x => exact ⟨x.1,x.2.1,x.2.2,rfl⟩
   rw [stdM_some hd] at c7
   obtain ⟨wf,hn',hsz⟩ := wf_of hd
   refine ⟨_,rfl,G.p,G3.dx,_,rfl,by rw [← ep,← ep3]; exact I3.ob,mF_here,G3,W3,code,s2,N + 2 * j + 1,by rw [ep3,ep]; rfl,I3,by omega,fun W4 H4 G4 v ep4 f4 I4 hv => ?_⟩
   unfold MetAt at hv
   rw [hd] at hv
   obtain ⟨x,rfl,hx⟩ := hv
   obtain ⟨dxi,l,hx1,hl1⟩ := id hx
   have ep' : G4.p = G.p := by rw [ep4,ep3,ep]
   refine ⟨_,rfl,x,C,dxi,_,_,rfl,(I4.sub _ _ hx1),TI.cl,TI.nN,(insF_number ..),⟨rfl,_,rfl,?_⟩⟩
   show if decide (V.int _ = V.int 18) = true then _ else _
   rw [decV]
   have f24 := f2.trans (f3.trans f4)
   by_cases c : n' = 18 ∧ s2.out.length = cap
   ·rw [decide_eq_true (by omega)]
    refine iteT (⟨_,rfl,G.p,CM,G4.dx,_,_,rfl,by rw [← ep']; exact I4.ob,T.cM,T.nOut,mF_out ..,⟨G4.ao,_,rfl,.inl (SqL.of I4.ou),_,rfl,rfl,_,rfl,?_⟩⟩)
    show if decide (V.int _ = V.int _) = true then _ else _
    rw [decV,List.length_map,decide_eq_true (by omega)]
    rw [goP_cap hd c] at eg
    refine iteT (k W4 H4 G4 ep' ?_ ?_)
    ·rw [eg]; exact f24
    ·rw [eg]; exact I4.more (by omega)
   ·have esz : (s2.m.pc : Int) + Ins.sizeOf n' = ((s2.m.pc + size : Nat) : Int) := by
     unfold Ins.sizeOf
     rw [wI_sum,hsz]
     omega
    obtain ⟨fd',G',hk,hb⟩ := TT.fnd base n' hn'
    have iv6 := inv_do (out := s2.out) (pc := s2.m.pc + size) wf iv2 qr2 c7
    rw [eN,goP_next hd c7 c] at eg
    have ol6 := out_len (n := n') (ops := ops) ⟨{ s2.m with pc := s2.m.pc + size },s2.q,s2.out⟩
    have I5 := I4.putP (s2.m.pc + size) s2.m.line
    have f5 := f24.trans (Fr.upd (o := .ins CM G4.dx (mF G4.ac G4.am (.int ((s2.m.pc + size : Nat) : Int)) G4.as G4.ash G4.acl (.int (s2.m.line : Int)) G4.aw G4.ao)) (ky_p (CM := CM) (G := G4) (s := s2)))
    by_cases h18 : n' = 18
    case' pos =>
     rw [decide_eq_true (by omega)]
     refine iteT (⟨_,rfl,G.p,CM,G4.dx,_,_,rfl,by rw [← ep']; exact I4.ob,T.cM,T.nOut,mF_out ..,⟨G4.ao,_,rfl,.inl (SqL.of I4.ou),_,rfl,rfl,_,rfl,?_⟩⟩)
     show if decide (V.int _ = V.int _) = true then _ else _
     rw [decV,List.length_map,decide_eq_false (fun z => c ⟨h18,by omega⟩)]
     refine iteF ?_
    case' neg =>
     rw [decide_eq_false (by omega)]
     refine iteF (iteF ?_)
    all_goals
     refine ⟨_,rfl,G.p,CM,G4.dx,_,_,rfl,by rw [← ep']; exact I4.ob,T.cM,T.nAt,mF_at ..,⟨_,rfl,x,C,dxi,_,_,rfl,(I4.sub _ _ hx1),TI.cl,TI.nS,(insF_size ..),⟨_,_,rfl,rfl,_,rfl,G.p,CM,G4.dx,_,rfl,by rw [← ep']; exact I4.ob,T.cM,T.nAt,mF_len ..,?_⟩⟩⟩
     rw [mP_at]
     dsimp only
     rw [esz,← ep']
     revert I5 f5
     generalize upd H4 G4.p (.ins CM G4.dx (mF G4.ac G4.am (.int ((s2.m.pc + size : Nat) : Int)) G4.as G4.ash G4.acl (.int (s2.m.line : Int)) G4.aw G4.ao)) = H5
     intro I5 f5
     rw [ep']
     refine ⟨_,rfl,x,C,dxi,_,_,rfl,(I5.sub _ _ hx1),TI.cl,TI.nN,(insF_number ..),⟨aD,_,_,_,rfl,rfl,TT.actT _,tab_ix hn',fD n',fd',_,_,3,CX0,_,rfl,G',hr3,hk,hb,pass0,_,rfl,_,rfl,G4,x,W4,code,_,_,ops,by rw [ep']; rfl,I5,⟨iv2.sl,iv2.fl,iv2.sr,iv2.vr,iv2.fr,iv2.fo⟩,hx,wf,c7,by show s2.out.length ≤ 20000; omega,fun W6 H6 G6 ep6 f6 I6 => ?_⟩⟩
     exact ⟨_,_,W6,G6,_,I6.more (by omega),by rw [ep6,ep'],iv6.1,iv6.2,Nat.le_trans ol6 (Nat.succ_le_succ ol2),eg,f5.trans f6,rfl⟩
  ·rw [decide_eq_false (by omega)]
   refine iteT ?_
   rw [goP_stop c7] at eg
   refine k W3 H3 G3 (by rw [ep3,ep]) ?_ ?_
   ·rw [eg]; exact f2.trans f3
   ·rw [eg]; exact I3.more (by omega)
 ·rintro σ H2 ⟨v3,v4,W2,G2,s2,I2,ep,iv2,qr2,ol2,eg,f2,rfl⟩
  rw [Nat.sub_self] at eg
  refine k W2 H2 G2 ep ?_ ?_
  ·rw [eg]; exact f2
  ·rw [eg]; exact I2
end
end Mc
namespace Mc
open PySem L2 Ins Ar R
section
variable {P : Program} {w : World} {K : PySem.W.Frag} {mg : Str → Option Value} {base : Heap} {C CC CM aW aA aS aD : Addr} {wA fA fS fD : Nat → Addr}
theorem al {Hk : Hp} {p q : Addr} {o u u0 : HO} (hq : Hk q = none) (hp : Hk p = some u0) : (upd (upd Hk q o) p u) p = some u ∧ (upd (upd Hk q o) p u) q = some o ∧ (∀ b v,Hk b = some v → b ≠ p → (upd (upd Hk q o) p u) b = some v) ∧ q ≠ p := by
 have n : q ≠ p := fun z => by rw [z,hp] at hq; cases hq
 exact ⟨upd_same,by rw [upd_ne n,upd_same],fun b v e h => by rw [upd_ne h,upd_ne (ne_of_none e hq)]; exact e,n⟩
def spMInit (C CC CM : Addr) : Sp := fun vs H Q _ => ∃ (p dx ac : Addr) (code : Ls.Bytes),vs = [.ref p,.ref ac] ∧ H p = some (.ins CM dx []) ∧ H ac = some (.lst (vB code)) ∧ code.length ≤ 300000 ∧
 ∀ H' G,G.p = p → MaAt C CC CM (one1 ac (.lst (vB code))) H' G code ⟨Ls.M.init,[],[]⟩ 0 → (∀ b o,H b = some o → b ≠ p → H' b = some o ∧ b ∉ ky CM G ⟨Ls.M.init,[],[]⟩) → Q .non H'
theorem scMInit : FnScope ["self","code"] ["self","code"] (defScope sMInit) := ⟨rfl,rfl,rfl,by decide +kernel,rfl,by decide +kernel,by decide +kernel⟩
theorem sh_rep : (List.replicate (256 : Int).toNat [V.int 0]).flatten = shV fun _ => 0 := by decide +kernel
theorem ok_mInit {f : Addr} {fd : FuncData} (F : Fun K "__init__" "Machine.__init__" sMInit f fd) (T : MaT K mg CC CM) : FnOk P w K mg base CX0 1 f fd ["self","code"] (spMInit C CC CM) := by
 refine F.ok scMInit (fun vs H Q E h => by obtain ⟨p,dx,ac,code,rfl,_⟩ := h; rfl) (fun cdv A outer s0 H vs Q E hr h => ?_)
 obtain ⟨p,dx,ac,code,rfl,hp,hac,hlen,k⟩ := h
 obtain ⟨tn,hn⟩ := T.sn
 refine ⟨_,pss_cons (ps_fld (pv 0) (pv 1) rfl) (pss_cons (ps_fld (pv 0) pe_dnewK rfl) (pss_cons (ps_fld (pv 0) pe_int rfl) (pss_cons (ps_fld (pv 0) (pe_lst pa_nil) rfl)
  (pss_cons (ps_fld (pv 0) (pe_op op_rep (pe_lst (pa_cons pe_int pa_nil)) (pe_glob (v := V.int 256) (by rfl) hn ⟨tn,rfl⟩)) rfl) (pss_cons (ps_fld (pv 0) (pe_lst pa_nil) rfl) (pss_cons (ps_fld (pv 0) pe_int rfl) (pss_cons (ps_fld (pv 0) (pe_lst pa_nil) rfl) (pss_one (ps_fld (pv 0) (pe_lst pa_nil) rfl))))))))),?_⟩
 refine ⟨_,rfl,_,rfl,p,CM,dx,[],rfl,hp,T.cM,T.nCode,(by show 0 < 1000; decide),fun am ham => ?_⟩
 have n1 : am ≠ p := fun z => by rw [z,upd_same] at ham; cases ham
 have ham0 : H am = none := by rw [upd_ne n1] at ham; exact ham
 have npc : ac ≠ p := fun z => by rw [z,hp] at hac; injection hac with hac; cases hac
 refine ⟨_,rfl,p,CM,dx,_,rfl,by rw [upd_ne n1.symm]; exact upd_same,T.cM,T.nMet,(by show 1 < 1000; decide),?_⟩
 refine ⟨_,rfl,p,CM,dx,_,rfl,upd_same,T.cM,T.nAt,(by show 2 < 1000; decide),?_⟩
 rw [upd_upd]
 obtain ⟨p1,m1,o1,_⟩ := al (o := .dK []) (u := .ins CM dx (putF "at" (.int 0) (putF "met" (.ref am) (putF "code" (.ref ac) [])))) ham (u0 := _) upd_same
 have ex1 : ∀ b u,H b = some u → b ≠ p → (upd (upd (upd H p (.ins CM dx (putF "code" (.ref ac) []))) am (.dK [])) p (.ins CM dx (putF "at" (.int 0) (putF "met" (.ref am) (putF "code" (.ref ac) []))))) b = some u := fun b u e h => o1 b u (by rw [upd_ne h]; exact e) h
 revert p1 m1 ex1
 clear o1
 show _ → _ → _ → tSeq _ _ _ _ (upd (upd (upd H p (.ins CM dx (putF "code" (.ref ac) []))) am (.dK [])) p (.ins CM dx (putF "at" (.int 0) (putF "met" (.ref am) (putF "code" (.ref ac) [])))))
 generalize upd (upd (upd H p (.ins CM dx (putF "code" (.ref ac) []))) am (.dK [])) p (.ins CM dx (putF "at" (.int 0) (putF "met" (.ref am) (putF "code" (.ref ac) [])))) = H1
 intro p1 m1 ex1
 refine ⟨zero_line,fun as has => ⟨_,rfl,p,CM,dx,_,rfl,by rw [upd_ne (ne_of_none p1 has)]; exact p1,T.cM,T.nStack,(by show 3 < 1000; decide),?_⟩⟩
 obtain ⟨p2,m2,o2,n2⟩ := al (o := .lst []) (u := .ins CM dx (putF "stack" (.ref as) (putF "at" (.int 0) (putF "met" (.ref am) (putF "code" (.ref ac) []))))) has p1
 revert p2 m2 o2
 show _ → _ → _ → tSeq _ _ _ _ (upd (upd H1 as (.lst [])) p (.ins CM dx (putF "stack" (.ref as) (putF "at" (.int 0) (putF "met" (.ref am) (putF "code" (.ref ac) []))))))
 generalize upd (upd H1 as (.lst [])) p (.ins CM dx (putF "stack" (.ref as) (putF "at" (.int 0) (putF "met" (.ref am) (putF "code" (.ref ac) []))))) = H2
 intro p2 m2 o2
 refine ⟨by show 1 ≤ sizeLine; have := line_big'; omega,fun z hz => ⟨z,_,_,rfl,rfl,upd_same,by decide,by decide,by show 1 * 256 ≤ sizeLine; have := line_big'; omega,fun ash hash => ?_⟩⟩
 rw [sh_rep]
 have nz : p ≠ z := ne_of_none p2 hz
 have p2' : (upd H2 z (.lst [V.int 0])) p = _ := (upd_ne nz).trans p2
 have na : p ≠ ash := ne_of_none p2' hash
 refine ⟨_,rfl,p,CM,dx,_,rfl,by rw [upd_ne na]; exact p2',T.cM,T.nShared,(by show 4 < 1000; decide),?_⟩
 obtain ⟨p3,m3,o3',n3⟩ := al (o := .lst (shV fun _ => 0)) (u := .ins CM dx (putF "shared" (.ref ash) (putF "stack" (.ref as) (putF "at" (.int 0) (putF "met" (.ref am) (putF "code" (.ref ac) [])))))) hash p2'
 have o3 : ∀ b v,H2 b = some v → b ≠ p → _ := fun b v e h => o3' b v (by rw [upd_ne (ne_of_none e hz)]; exact e) h
 have hash2 : H2 ash = none := by
  have : ash ≠ z := fun q => by rw [q,upd_same] at hash; cases hash
  rw [upd_ne this] at hash; exact hash
 clear o3'
 revert p3 m3 o3
 show _ → _ → _ → tSeq _ _ _ _ (upd (upd (upd H2 z (.lst [V.int 0])) ash (.lst (shV fun _ => 0))) p (.ins CM dx (putF "shared" (.ref ash) (putF "stack" (.ref as) (putF "at" (.int 0) (putF "met" (.ref am) (putF "code" (.ref ac) [])))))))
 generalize upd (upd (upd H2 z (.lst [V.int 0])) ash (.lst (shV fun _ => 0))) p (.ins CM dx (putF "shared" (.ref ash) (putF "stack" (.ref as) (putF "at" (.int 0) (putF "met" (.ref am) (putF "code" (.ref ac) [])))))) = H3
 intro p3 m3 o3
 refine ⟨zero_line,fun acl hacl => ⟨_,rfl,p,CM,dx,_,rfl,by rw [upd_ne (ne_of_none p3 hacl)]; exact p3,T.cM,T.nCalls,(by show 5 < 1000; decide),?_⟩⟩
 refine ⟨_,rfl,p,CM,dx,_,rfl,upd_same,T.cM,T.nLine,(by show 6 < 1000; decide),?_⟩
 rw [upd_upd]
 obtain ⟨p4,m4,o4,n4⟩ := al (o := .lst []) (u := .ins CM dx (putF "line" (.int 0) (putF "calls" (.ref acl) (putF "shared" (.ref ash) (putF "stack" (.ref as) (putF "at" (.int 0) (putF "met" (.ref am) (putF "code" (.ref ac) [])))))))) hacl p3
 revert p4 m4 o4
 show _ → _ → _ → tSeq _ _ _ _ (upd (upd H3 acl (.lst [])) p (.ins CM dx (putF "line" (.int 0) (putF "calls" (.ref acl) (putF "shared" (.ref ash) (putF "stack" (.ref as) (putF "at" (.int 0) (putF "met" (.ref am) (putF "code" (.ref ac) [])))))))))
 generalize upd (upd H3 acl (.lst [])) p (.ins CM dx (putF "line" (.int 0) (putF "calls" (.ref acl) (putF "shared" (.ref ash) (putF "stack" (.ref as) (putF "at" (.int 0) (putF "met" (.ref am) (putF "code" (.ref ac) [])))))))) = H4
 intro p4 m4 o4
 refine ⟨zero_line,fun aw haw => ⟨_,rfl,p,CM,dx,_,rfl,by rw [upd_ne (ne_of_none p4 haw)]; exact p4,T.cM,T.nWaiting,(by show 7 < 1000; decide),?_⟩⟩
 obtain ⟨p5,m5,o5,n5⟩ := al (o := .lst []) (u := .ins CM dx (putF "waiting" (.ref aw) (putF "line" (.int 0) (putF "calls" (.ref acl) (putF "shared" (.ref ash) (putF "stack" (.ref as) (putF "at" (.int 0) (putF "met" (.ref am) (putF "code" (.ref ac) []))))))))) haw p4
 revert p5 m5 o5
 generalize upd (upd H4 aw (.lst [])) p (.ins CM dx (putF "waiting" (.ref aw) (putF "line" (.int 0) (putF "calls" (.ref acl) (putF "shared" (.ref ash) (putF "stack" (.ref as) (putF "at" (.int 0) (putF "met" (.ref am) (putF "code" (.ref ac) []))))))))) = H5
 intro p5 m5 o5
 refine ⟨zero_line,fun ao hao => ⟨_,rfl,p,CM,dx,_,rfl,by rw [upd_ne (ne_of_none p5 hao)]; exact p5,T.cM,T.nOut,(by show 8 < 1000; decide),?_⟩⟩
 obtain ⟨p6,m6,o6,n6⟩ := al (o := .lst []) (u := .ins CM dx (mF ac am (.int 0) as ash acl (.int 0) aw ao)) hao p5
 revert p6 m6 o6
 show _ → _ → _ → Q .non (upd (upd H5 ao (.lst [])) p (.ins CM dx (mF ac am (.int 0) as ash acl (.int 0) aw ao)))
 generalize upd (upd H5 ao (.lst [])) p (.ins CM dx (mF ac am (.int 0) as ash acl (.int 0) aw ao)) = H6
 intro p6 m6 o6
 have m1_2 := o2 _ _ m1 n1
 have m1_3 := o3 _ _ m1_2 n1
 have m1_4 := o4 _ _ m1_3 n1
 have m1_5 := o5 _ _ m1_4 n1
 have m1_6 := o6 _ _ m1_5 n1
 have m2_3 := o3 _ _ m2 n2
 have m2_4 := o4 _ _ m2_3 n2
 have m2_5 := o5 _ _ m2_4 n2
 have m2_6 := o6 _ _ m2_5 n2
 have m3_4 := o4 _ _ m3 n3
 have m3_5 := o5 _ _ m3_4 n3
 have m3_6 := o6 _ _ m3_5 n3
 have m4_5 := o5 _ _ m4 n4
 have m4_6 := o6 _ _ m4_5 n4
 have m5_6 := o6 _ _ m5 n5
 have up : ∀ b u,H b = some u → b ≠ p → H1 b = some u ∧ H2 b = some u ∧ H3 b = some u ∧ H4 b = some u ∧ H5 b = some u ∧ H6 b = some u := fun b u e h => by
  have x1 := ex1 b u e h
  have x2 := o2 b u x1 h
  have x3 := o3 b u x2 h
  have x4 := o4 b u x3 h
  have x5 := o5 b u x4 h
  exact ⟨x1,x2,x3,x4,x5,o6 b u x5 h⟩
 have fresh : ∀ b u,H b = some u → b ≠ p → b ∉ [p,as,ash,acl,aw,ao,am] := fun b u e h z => by
  obtain ⟨x1,x2,x3,x4,x5,x6⟩ := up b u e h
  simp only [List.mem_cons,List.not_mem_nil,or_false] at z
  rcases z with z | z | z | z | z | z | z
  ·exact h z
  ·rw [z,has] at x1; cases x1
  ·rw [z,hash2] at x2; cases x2
  ·rw [z,hacl] at x3; cases x3
  ·rw [z,haw] at x4; cases x4
  ·rw [z,hao] at x5; cases x5
  ·rw [z,ham0] at e; cases e
 have hac6 := (up ac _ hac npc).2.2.2.2.2
 have hG : MaAt C CC CM (one1 ac (.lst (vB code))) H6 ⟨p,dx,ac,am,as,ash,acl,aw,ao,[],[],[]⟩ code ⟨Ls.M.init,[],[]⟩ 0 := by
  refine ⟨one_sub hac6,one_at,hlen,?_,?_,?_,rfl,.nil,fun i v e => (nomatch e),Nat.le_refl _⟩
  ·intro x hx
   rcases hx with _ | ⟨_,hx⟩
   ·exact p6
   rcases hx with _ | ⟨_,hx⟩
   ·exact m2_6
   rcases hx with _ | ⟨_,hx⟩
   ·exact m3_6
   rcases hx with _ | ⟨_,hx⟩
   ·exact m4_6
   rcases hx with _ | ⟨_,hx⟩
   ·exact m5_6
   rcases hx with _ | ⟨_,hx⟩
   ·exact m6
   rcases hx with _ | ⟨_,hx⟩
   ·exact m1_6
   ·cases hx
  ·show [p,as,ash,acl,aw,ao,am].Nodup
   have e1 := ne_of_none m1 has
   have e2 := ne_of_none m1_2 hash2
   have e3 := ne_of_none m1_3 hacl
   have e4 := ne_of_none m1_4 haw
   have e5 := ne_of_none m1_5 hao
   have e6 := ne_of_none m2 hash2
   have e7 := ne_of_none m2_3 hacl
   have e8 := ne_of_none m2_4 haw
   have e9 := ne_of_none m2_5 hao
   have e10 := ne_of_none m3 hacl
   have e11 := ne_of_none m3_4 haw
   have e12 := ne_of_none m3_5 hao
   have e13 := ne_of_none m4 haw
   have e14 := ne_of_none m4_5 hao
   have e15 := ne_of_none m5 hao
   simp only [List.nodup_cons,List.mem_cons,List.not_mem_nil,or_false,not_or,not_false_eq_true,List.nodup_nil,and_true]
   exact ⟨⟨n2.symm,n3.symm,n4.symm,n5.symm,n6.symm,n1.symm⟩,⟨e6,e7,e8,e9,e1.symm⟩,⟨e10,e11,e12,e2.symm⟩,⟨e13,e14,e3.symm⟩,⟨e15,e4.symm⟩,e5.symm⟩
  ·intro b hb
   exact one_no fun z => fresh ac _ hac npc (z ▸ hb)
 exact k H6 _ rfl hG fun b o e h => ⟨(up b o e h).2.2.2.2.2,fresh b o e h⟩
end
end Mc
namespace Mc
open PySem L2 Ins Ar R
def kF (v : V) : List (Str × V) := [("machine",v)]
theorem kF_at {v : V} : (kF v).lookup ("machine" : Str) = some v := rfl
structure DkT (K : PySem.W.Frag) (mg : Str → Option Value) (CK : Addr) : Prop where
 cK : Cls K CK
 nM : NoAttr K CK "machine"
 mgK : mg "Desk" = some (.ref CK)
 ld : ∃ t,mg "LOAD" = some (.int 4 t)
 gv : ∃ t,mg "GIVE" = some (.int 5 t)
 go : ∃ t,mg "GO" = some (.int 6 t)
 mcd : ∃ t,mg "MOST_CODE" = some (.int 262208 t)
 mwt : ∃ t,mg "MOST_WAITING" = some (.int 4096 t)
 mst : ∃ t,mg "MOST_STEPS" = some (.int 20000 t)
 all : mg "all" = none
def DkV (C CC CM : Addr) (H : Hp) (ks : List Addr) (W : Hp) (N : Nat) (v : V) : Ls.State → Prop
 | none => v = .non ∧ ks = [] ∧ W = fun _ => none
 | some x => ∃ (G : Gh) (out : List Int),v = .ref G.p ∧ ks = ky CM G ⟨x.m,x.queue,out⟩ ∧ MaAt C CC CM W H G x.code ⟨x.m,x.queue,out⟩ N
structure DkAt (C CC CM CK : Addr) (H : Hp) (d : Addr) (st : Ls.State) (ks : List Addr) (W : Hp) (N : Nat) : Prop where
 ob : ∃ dx v,H d = some (.ins CK dx (kF v)) ∧ DkV C CC CM H ks W N v st
 nd : d ∉ ks
 wd : W d = none
 dk : Dk st
theorem MaAt.off {C CC CM : Addr} {W H : Hp} {G : Gh} {code : Ls.Bytes} {s : Sd} {N : Nat} (I : MaAt C CC CM W H G code s N) {d : Addr} {o : HO} (h1 : d ∉ ky CM G s) (h2 : W d = none) : MaAt C CC CM W (upd H d o) G code s N :=
 ⟨Same.upd' I.sub h2,I.cd,I.cl,fun x hx => by rw [upd_ne (ky_ne h1 (List.mem_map.mpr ⟨x,hx,rfl⟩)).symm]; exact I.ce x hx,I.nd,I.wn,I.ol,I.cp,I.mt,I.kl⟩
theorem DkV.fresh {C CC CM : Addr} {H : Hp} {ks : List Addr} {W : Hp} {N : Nat} {v : V} {st : Ls.State} (h : DkV C CC CM H ks W N v st) {p : Addr} (hp : H p = none) : p ∉ ks ∧ W p = none := by
 cases st with
 | none =>
  obtain ⟨_,e1,e2⟩ := h
  rw [e1,e2]
  exact ⟨fun z => (nomatch z),rfl⟩
 | some x =>
  obtain ⟨G,out,e,ek,I⟩ := h
  refine ⟨fun z => ?_,I.sub.free hp⟩
  rw [ek] at z
  obtain ⟨u,e⟩ := I.some_of z
  rw [hp] at e; cases e
theorem DkV.grow {C CC CM : Addr} {H H' : Hp} {ks : List Addr} {W : Hp} {N : Nat} {v : V} {st : Ls.State} (h : DkV C CC CM H ks W N v st) (s : Same H H') : DkV C CC CM H' ks W N v st := by
 cases st with
 | none => exact h
 | some x =>
  obtain ⟨G,out,e,ek,I⟩ := h
  exact ⟨G,out,e,ek,I.grow s⟩
theorem DkV.off {C CC CM : Addr} {H : Hp} {ks : List Addr} {W : Hp} {N : Nat} {v : V} {st : Ls.State} (h : DkV C CC CM H ks W N v st) {d : Addr} {o : HO} (h1 : d ∉ ks) (h2 : W d = none) : DkV C CC CM (upd H d o) ks W N v st := by
 cases st with
 | none => exact h
 | some x =>
  obtain ⟨G,out,e,ek,I⟩ := h
  exact ⟨G,out,e,ek,I.off (ek ▸ h1) h2⟩
theorem DkV.more {C CC CM : Addr} {H : Hp} {ks : List Addr} {W : Hp} {N M : Nat} {v : V} {st : Ls.State} (h : DkV C CC CM H ks W N v st) (l : N ≤ M) : DkV C CC CM H ks W M v st := by
 cases st with
 | none => exact h
 | some x =>
  obtain ⟨G,out,e,ek,I⟩ := h
  exact ⟨G,out,e,ek,I.more l⟩
theorem DkAt.grow {C CC CM CK : Addr} {H H' : Hp} {d : Addr} {ks : List Addr} {W : Hp} {N : Nat} {st : Ls.State} (D : DkAt C CC CM CK H d st ks W N) (s : Same H H') : DkAt C CC CM CK H' d st ks W N := by
 obtain ⟨dx,v,h,hv⟩ := D.ob
 exact ⟨⟨dx,v,s _ _ h,hv.grow s⟩,D.nd,D.wd,D.dk⟩
theorem DkAt.more {C CC CM CK : Addr} {H : Hp} {d : Addr} {ks : List Addr} {W : Hp} {N M : Nat} {st : Ls.State} (D : DkAt C CC CM CK H d st ks W N) (l : N ≤ M) : DkAt C CC CM CK H d st ks W M := by
 obtain ⟨dx,v,h,hv⟩ := D.ob
 exact ⟨⟨dx,v,h,hv.more l⟩,D.nd,D.wd,D.dk⟩
theorem DkAt.off {C CC CM CK : Addr} {H : Hp} {d : Addr} {ks : List Addr} {W : Hp} {N : Nat} {st : Ls.State} (D : DkAt C CC CM CK H d st ks W N) {b : Addr} {o : HO} (h0 : b ≠ d) (h1 : b ∉ ks) (h2 : W b = none) : DkAt C CC CM CK (upd H b o) d st ks W N := by
 obtain ⟨dx,v,h,hv⟩ := D.ob
 exact ⟨⟨dx,v,by rw [upd_ne h0.symm]; exact h,hv.off h1 h2⟩,D.nd,D.wd,D.dk⟩
def FrD (d : Addr) (ks : List Addr) (W H : Hp) (ks' : List Addr) (W' H' : Hp) (p : Addr) : Prop := ∀ b o,H b = some o → b ≠ d → b ∉ ks → W b = none → H' b = some o ∧ b ∉ ks' ∧ W' b = none ∧ b ≠ p
def PostD (C CC CM CK d : Addr) (ks : List Addr) (W H : Hp) (st : Ls.State) (ans : List Int) (N : Nat) (Q : VK) : Prop :=
 ∀ H' ks' W' p,DkAt C CC CM CK H' d st ks' W' N → FrD d ks W H ks' W' H' p → p ∉ ks' → W' p = none → p ≠ d → H' p = some (.lst (ans.map V.int)) → Q (.ref p) H'
section
variable {P : Program} {w : World} {K : PySem.W.Frag} {mg : Str → Option Value} {base : Heap} {C CC CM CK aW aA aS aD : Addr} {wA fA fS fD : Nat → Addr}
theorem PostD.plain {d : Addr} {ks : List Addr} {W H : Hp} {st : Ls.State} {ans : List Int} {N M : Nat} {Q : VK} (k : PostD C CC CM CK d ks W H st ans M Q) (D : DkAt C CC CM CK H d st ks W N) (l : N ≤ M) : ∀ p,H p = none → Q (.ref p) (upd H p (.lst (ans.map V.int))) := fun p hp => by
 have s1 : Same H (upd H p (.lst (ans.map V.int))) := Same.upd' (Same.refl H) hp
 obtain ⟨dx,v,hd,hv⟩ := D.ob
 obtain ⟨f1,f2⟩ := hv.fresh hp
 exact k _ ks W p ((D.grow s1).more l) (fun b o e h1 h2 h3 => ⟨s1 _ _ e,h2,h3,ne_of_none e hp⟩) f1 f2 (ne_of_none hd hp).symm upd_same
theorem one_line : (1 : Nat) ≤ sizeLine := by have := line_big'; omega
def spKLoad (C CC CM CK : Addr) : Sp := fun vs H Q _ => ∃ (d ac : Addr) (code : Ls.Bytes) (st : Ls.State) (ks : List Addr) (W : Hp) (N : Nat),vs = [.ref d,.ref ac] ∧ DkAt C CC CM CK H d st ks W N ∧ H ac = some (.lst (vB code)) ∧ code.length ≤ 16000 ∧
 ∀ H' ks' W' p,DkAt C CC CM CK H' d (some ⟨code,Ls.M.init,[]⟩) ks' W' N → (∀ b o,H b = some o → b ≠ d → b ≠ ac → b ∉ ks → W b = none → H' b = some o ∧ b ∉ ks' ∧ W' b = none ∧ b ≠ p) → p ∉ ks' → W' p = none → p ≠ d → H' p = some (.lst [.int 0]) → Q (.ref p) H'
theorem scKLoad : FnScope ["self","code"] ["self","code"] (defScope sKLoad) := ⟨rfl,rfl,rfl,by decide +kernel,rfl,by decide +kernel,by decide +kernel⟩
theorem ok_kLoad {f fM : Addr} {fd fdM : FuncData} (F : Fun K "load" "Desk.load" sKLoad f fd) (T : MaT K mg CC CM) (TK : DkT K mg CK) (MM : Mk K CM fM) (FM : Fun K "__init__" "Machine.__init__" sMInit fM fdM) (bM : Binds K fdM ["self","code"] []) : FnOk P w K mg base CX0 3 f fd ["self","code"] (spKLoad C CC CM CK) := by
 have GM : FnOk P w K mg base CX0 1 fM fdM ["self","code"] (spMInit C CC CM) := ok_mInit FM T
 refine F.ok scKLoad (fun vs H Q E h => by obtain ⟨d,ac,code,st,ks,W,N,rfl,_⟩ := h; rfl) (fun cdv A outer s0 H vs Q E hr h => ?_)
 obtain ⟨d,ac,code,st,ks,W,N,rfl,D,hac,hlen,k⟩ := h
 obtain ⟨tc,hc⟩ := TK.mcd
 refine ⟨_,pss_cons (ps_if (pt_cmpR op_gt (pe_callB call_len_seq (by rfl) T.len PySem.boot_len (pa_cons (pv 1) pa_nil)) (pe_glob (v := V.int 262208) (by rfl) hc ⟨tc,rfl⟩) (nomark _)) (pss_one (ps_ret (pe_lst (pa_cons (pe_un un_neg pe_int) pa_nil)))) pss_nil)
  (pss_cons (ps_fld (pv 0) (pe_make MM GM hr (by rfl) T.mgM bM .nil pass0 (pa_cons (pv 1) pa_nil)) rfl)
  (pss_one (ps_ret (pe_lst (pa_cons pe_int pa_nil))))),?_⟩
 refine ⟨_,rfl,ac,_,rfl,.inl (SqL.of hac),_,_,rfl,rfl,_,rfl,?_⟩
 rw [vB_len,decide_eq_false (by omega)]
 obtain ⟨dxd,v,hd,hv⟩ := D.ob
 refine iteF ⟨_,rfl,fun x dx hx hdx ne => ?_⟩
 have s1 : ∀ b o,H b = some o → (upd (upd H dx (.own x)) x (.ins CM dx [])) b = some o ∧ b ≠ x := fun b o e => ⟨by rw [upd_ne (ne_of_none e hx),upd_ne (ne_of_none e hdx)]; exact e,ne_of_none e hx⟩
 refine ⟨x,dx,ac,code,rfl,upd_same,(s1 _ _ hac).1,by omega,fun H1 G eG I1 f1 => ⟨rfl,?_⟩⟩
 have f1' : ∀ b o,H b = some o → H1 b = some o ∧ b ∉ ky CM G ⟨Ls.M.init,[],[]⟩ := fun b o e => f1 b o (s1 b o e).1 (s1 b o e).2
 clear f1 s1
 refine ⟨_,rfl,d,CK,dxd,_,rfl,(f1' _ _ hd).1,TK.cK,TK.nM,(by show 1 < 1000; decide),?_⟩
 have ndc : d ≠ ac := fun z => by rw [z,hac] at hd; injection hd with hd; cases hd
 have I2 := I1.off (o := .ins CK dxd (kF (.ref x))) (f1' _ _ hd).2 (one_no ndc)
 refine ⟨one_line,fun p hp => ?_⟩
 have np : d ≠ p := fun z => by rw [← z,upd_same] at hp; cases hp
 have hp1 : H1 p = none := by rw [upd_ne np.symm] at hp; exact hp
 have s3 : Same (upd H1 d (.ins CK dxd (kF (.ref x)))) (upd (upd H1 d (.ins CK dxd (kF (.ref x)))) p (.lst [.int 0])) := Same.upd' (Same.refl _) hp
 refine k _ (ky CM G ⟨Ls.M.init,[],[]⟩) (one1 ac (.lst (vB code))) p ⟨⟨dxd,.ref x,s3 _ _ upd_same,G,[],by rw [eG],rfl,(I2.grow s3).more (Nat.zero_le _)⟩,(f1' _ _ hd).2,one_no ndc,inv_init,fun z hz => (nomatch hz),hlen,Nat.zero_le _⟩ (fun b o e h1 h2 h3 h4 => ?_) ?_ ?_ np.symm upd_same
 ·refine ⟨s3 _ _ (by rw [upd_ne h1]; exact (f1' b o e).1),(f1' b o e).2,one_no h2,fun z => ?_⟩
  have := (f1' b o e).1
  rw [z,hp1] at this; cases this
 ·intro z
  obtain ⟨u,e⟩ := I1.some_of z
  rw [hp1] at e; cases e
 ·exact I1.sub.free hp1
def spKGive (C CC CM CK : Addr) : Sp := fun vs H Q _ => ∃ (d ag : Addr) (g : List Int) (st : Ls.State) (ks : List Addr) (W : Hp) (N : Nat),vs = [.ref d,.ref ag] ∧ DkAt C CC CM CK H d st ks W N ∧ H ag = some (.lst (g.map V.int)) ∧ g.length ≤ 16000 ∧ ag ∉ ks ∧ W ag = none ∧
 PostD C CC CM CK d ks W H (LsNeutral.step st [[5],g]).1 (LsNeutral.step st [[5],g]).2 N Q
theorem scKGive : FnScope ["self","given","number"] ["self","given"] (defScope sKGive) := ⟨rfl,rfl,rfl,by decide +kernel,rfl,by decide +kernel,by decide +kernel⟩
theorem blkKGive : blkC ["self","given","number"] (defScope sKGive) { kind := .function,names := [(".0",.local),("number",.local),("in_range",.globalImplicit)],isGenerator := false,isCoroutine := false } [("number",2)] = true := by decide +kernel
theorem ok_kGive {f fR : Addr} {fd fdR : FuncData} (F : Fun K "give" "Desk.give" sKGive f fd) (T : MaT K mg CC CM) (TK : DkT K mg CK) (TA : AriT P w K mg aA fA) (DR : Dn K mg "in_range" sInRange fR fdR ["number"]) : FnOk P w K mg base CX0 2 f fd ["self","given"] (spKGive C CC CM CK) := by
 have GR : FnOk P w K mg base CX0 1 fR fdR ["number"] spInR := ok_inR DR.fn TA
 refine F.ok scKGive (fun vs H Q E h => by obtain ⟨d,ag,g,st,ks,W,N,rfl,_⟩ := h; rfl) (fun cdv A outer s0 H vs Q E hr h => ?_)
 obtain ⟨d,ag,g,st,ks,W,N,rfl,D,hag,hlen,ngk,ngw,k⟩ := h
 obtain ⟨tw,hw⟩ := TK.mwt
 refine ⟨_,pss_cons (ps_if (pt_not (pt_val (pe_callB (cr_all rfl) (by rfl) TK.all PyProof.Rows.boot_all (pa_cons (pe_lc rfl scKGive.nd (pi_list (pv 1)) (blkOk_by (own := [("number",2)]) blkKGive) (fun _ _ _ _ _ => pg_name (i := 2) scKGive.nd rfl (Or.inl rfl)) (fun _ _ _ _ _ => pts_nil)
    (fun _ _ _ _ _ => pe_call GR hr (by rfl) DR.at_ DR.fn.kp DR.bd .nil pass0 (pa_cons (pv 2) pa_nil))) pa_nil)) (fun _ => rfl))) (pss_one (ps_ret (pe_lst (pa_cons (pe_un un_neg pe_int) pa_nil)))) pss_nil)
  (pss_cons (ps_if (pt_cmpR op_isN (pe_fld (pv 0) rfl) pe_non (nomark _)) (pss_one (ps_ret (pe_lst (pa_cons (pe_un un_neg pe_int) pa_nil)))) pss_nil)
  (pss_cons (ps_if (pt_cmpR op_gt (pe_op op_add (pe_callB call_len_seq (by rfl) T.len PySem.boot_len (pa_cons (pe_fld (pe_fld (pv 0) rfl) rfl) pa_nil)) (pe_callB call_len_seq (by rfl) T.len PySem.boot_len (pa_cons (pv 1) pa_nil))) (pe_glob (v := V.int 4096) (by rfl) hw ⟨tw,rfl⟩) (nomark _)) (pss_one (ps_ret (pe_lst (pa_cons (pe_un un_neg pe_int) pa_nil)))) pss_nil)
  (pss_cons (ps_expr (pe_bm PySem.F.plainAttrs_list PySem.F.slot_list_extend PySem.F.type_list_extend mt_extend (pe_fld (pe_fld (pv 0) rfl) rfl) (pa_cons (pv 1) pa_nil)))
  (pss_one (ps_ret (pe_lst (pa_cons pe_int pa_nil))))))),?_⟩
 have big := line_big'
 refine ⟨_,rfl,ag,rfl,⟨_,SqL.of hag⟩,fun D0 hD => ?_⟩
 refine lc_list (K := K) (a := ag) (xs := g.map V.int) (fun i H' => Same H H' ∧ H' D0 = some (.lst (((g.take i).map Ls.inRange).map V.bl))) ⟨Same.upd' (Same.refl _) hD,upd_same⟩ (fun i H' _ ⟨s3,_⟩ => SqL.of (s3 _ _ hag)) ?_ ?_
 ·rintro i x H' hx ⟨s3,hD3⟩
  rw [List.getElem?_map] at hx
  obtain ⟨z,hz,rfl⟩ := Option.map_eq_some_iff.mp hx
  refine ⟨rfl,tYes_if' ?_⟩
  refine ⟨_,rfl,z,rfl,_,hD3,?_,Same.upd' s3 hD,?_⟩
  ·rw [List.length_map,List.length_map,List.length_take]; omega
  ·rw [upd_same,List.take_succ,hz,List.map_append,List.map_append]; rfl
 ·rintro H1 ⟨s1,hD1⟩
  rw [List.length_map,List.take_length] at hD1
  refine ⟨D0,_,rfl,SqL.of hD1,_,rfl,?_⟩
  have e4 : (g.map Ls.inRange).all id = g.all Ls.inRange := by rw [List.all_map]; rfl
  rw [e4]
  have D1 := D.grow s1
  have k1 : PostD C CC CM CK d ks W H1 (LsNeutral.step st [[5],g]).1 (LsNeutral.step st [[5],g]).2 N Q := fun H' ks' W' p h1 h2 => k H' ks' W' p h1 (fun b o e => h2 b o (s1 _ _ e))
  have hag1 := s1 _ _ hag
  clear k
  rw [step_give] at k1
  obtain ⟨dxd,v,hd,hv⟩ := D1.ob
  cases hall : g.all Ls.inRange with
  | false =>
   rw [if_pos hall] at k1
   exact iteT ⟨_,rfl,one_line,k1.plain D1 (Nat.le_refl _)⟩
  | true =>
   rw [if_neg (by rw [hall]; simp)] at k1
   refine iteF ⟨_,rfl,d,CK,dxd,_,_,rfl,hd,TK.cK,TK.nM,kF_at,rfl,_,rfl,?_⟩
   cases st with
   | none =>
    obtain ⟨rfl,_,_⟩ := hv
    exact iteT ⟨_,rfl,one_line,k1.plain D1 (Nat.le_refl _)⟩
   | some x =>
    obtain ⟨G,out,rfl,ek,I⟩ := hv
    obtain ⟨dki,dkq,dkc,dkl⟩ := D1.dk
    rw [show decide (V.ref G.p = V.non) = false from decide_eq_false (fun z => nomatch z)]
    refine iteF ⟨_,rfl,d,CK,dxd,_,_,rfl,hd,TK.cK,TK.nM,kF_at,G.p,CM,G.dx,_,_,rfl,I.ob,T.cM,T.nWaiting,mF_waiting ..,G.aw,_,rfl,.inl (SqL.of I.wa),_,rfl,ag,_,rfl,.inl (SqL.of hag1),_,_,rfl,rfl,_,_,rfl,rfl,_,rfl,?_⟩
    rw [List.length_map,List.length_map]
    dsimp only at k1
    by_cases c : x.queue.length + g.length ≤ 4096
    ·rw [if_pos c] at k1
     rw [decide_eq_false (by show ¬ ((4096 : Int) < (x.queue.length : Int) + (g.length : Int)); omega)]
     refine iteF ⟨_,rfl,d,CK,dxd,_,_,rfl,hd,TK.cK,TK.nM,kF_at,G.p,CM,G.dx,_,_,rfl,I.ob,T.cM,T.nWaiting,mF_waiting ..,.inl ⟨rfl,_,SqL.of I.wa⟩,_,rfl,G.aw,ag,_,_,rfl,rfl,I.wa,hag1,by rw [List.length_map,List.length_map]; show x.queue.length + _ ≤ _; omega,?_⟩
     rw [← List.map_append]
     have I2 := I.putQ (x.queue ++ g)
     have naw : G.aw ∈ ks := by rw [ek]; exact ky_aw
     have ndw : d ≠ G.aw := fun z => D1.nd (z ▸ naw)
     have D2 : DkAt C CC CM CK (upd H1 G.aw (.lst ((x.queue ++ g).map V.int))) d (some { x with queue := x.queue ++ g }) ks W N :=
      ⟨⟨dxd,_,by rw [upd_ne ndw]; exact hd,G,out,rfl,ek,I2⟩,D1.nd,D1.wd,dki,fun z hz => by
       rcases List.mem_append.mp hz with hz | hz
       ·exact dkq z hz
       ·exact List.all_eq_true.mp hall z hz,dkc,by show (x.queue ++ g).length ≤ 4096; rw [List.length_append]; exact c⟩
     refine ⟨one_line,?_⟩
     have k2 : PostD C CC CM CK d ks W (upd H1 G.aw (.lst ((x.queue ++ g).map V.int))) (some { x with queue := x.queue ++ g }) [0] N Q := fun H' ks' W' p h1 h2 => k1 H' ks' W' p h1 (fun b o e e1 e2 e3 => h2 b o (by rw [upd_ne (ky_ne e2 naw)]; exact e) e1 e2 e3)
     exact k2.plain D2 (Nat.le_refl _)
    ·rw [if_neg c] at k1
     rw [decide_eq_true (by show (4096 : Int) < (x.queue.length : Int) + (g.length : Int); omega)]
     exact iteT ⟨_,rfl,one_line,k1.plain D1 (Nat.le_refl _)⟩
def spKGo (C CC CM CK : Addr) : Sp := fun vs H Q _ => ∃ (d : Addr) (n c : Int) (st : Ls.State) (ks : List Addr) (W : Hp) (N : Nat),vs = [.ref d,.int n,.int c] ∧ DkAt C CC CM CK H d st ks W N ∧ 0 ≤ n ∧ 0 ≤ c ∧ N + 40001 < 16000000 ∧
 PostD C CC CM CK d ks W H (LsNeutral.step st [[6,n,c]]).1 (LsNeutral.step st [[6,n,c]]).2 (N + 40001) Q
theorem scKGo : FnScope ["self","n","cap"] ["self","n","cap"] (defScope sKGo) := ⟨rfl,rfl,rfl,by decide +kernel,rfl,by decide +kernel,by decide +kernel⟩
theorem ok_kGo {f fG : Addr} {fd fdG : FuncData} (F : Fun K "go" "Desk.go" sKGo f fd) (T : MaT K mg CC CM) (TK : DkT K mg CK) (MG : Meth K CM "go" fG) (GG : FnOk P w K mg base CX0 6 fG fdG ["self","n","cap"] (spMGo C CC CM)) (bG : Binds K fdG ["self","n","cap"] []) : FnOk P w K mg base CX0 7 f fd ["self","n","cap"] (spKGo C CC CM CK) := by
 refine F.ok scKGo (fun vs H Q E h => by obtain ⟨d,n,c,st,ks,W,N,rfl,_⟩ := h; rfl) (fun cdv A outer s0 H vs Q E hr h => ?_)
 obtain ⟨d,n,c,st,ks,W,N,rfl,D,hn,hc,hN,k⟩ := h
 obtain ⟨ts,hs⟩ := TK.mst
 refine ⟨_,pss_cons (ps_if (pt_cmpR op_gt (pv 1) (pe_glob (v := V.int 20000) (by rfl) hs ⟨ts,rfl⟩) (nomark _)) (pss_one (ps_ret (pe_lst (pa_cons (pe_un un_neg pe_int) pa_nil)))) pss_nil)
  (pss_cons (ps_if (pt_cmpR op_isN (pe_fld (pv 0) rfl) pe_non (nomark _)) (pss_one (ps_ret (pe_lst (pa_cons (pe_un un_neg pe_int) pa_nil)))) pss_nil)
  (pss_cons (ps_expr (pe_meth (pe_fld (pv 0) rfl) T.cM MG GG hr bG .nil pass0 (pa_cons (pv 1) (pa_cons (pv 2) pa_nil))))
  (pss_one (ps_ret (pe_op op_cat (pe_lst (pa_cons pe_int pa_nil)) (pe_fld (pe_fld (pv 0) rfl) rfl)))))),?_⟩
 have big := line_big'
 rw [step_go] at k
 obtain ⟨dxd,v,hd,hv⟩ := D.ob
 refine ⟨_,rfl,_,_,rfl,rfl,_,rfl,?_⟩
 by_cases cn : n.toNat ≤ 20000
 ·rw [if_neg (by simpa using cn)] at k
  rw [decide_eq_false (by omega)]
  refine iteF ⟨_,rfl,d,CK,dxd,_,_,rfl,hd,TK.cK,TK.nM,kF_at,rfl,_,rfl,?_⟩
  cases st with
  | none =>
   obtain ⟨rfl,_,_⟩ := hv
   exact iteT ⟨_,rfl,one_line,k.plain D (by omega)⟩
  | some x =>
   obtain ⟨G,out,rfl,ek,I⟩ := hv
   obtain ⟨dki,dkq,dkc,dkl⟩ := D.dk
   rw [show decide (V.ref G.p = V.non) = false from decide_eq_false (fun z => nomatch z)]
   have ge := go_eq (code := x.code) (cap := c.toNat) n.toNat x.m x.queue [] dki dkq (Nat.zero_le _)
   dsimp only [List.length_nil,Nat.sub_zero,List.nil_append] at ge
   change PostD C CC CM CK d ks W H (some ⟨x.code,(Ls.go x.code n.toNat c.toNat x.m x.queue).1,(Ls.go x.code n.toNat c.toNat x.m x.queue).2.1⟩) (0 :: (Ls.go x.code n.toNat c.toNat x.m x.queue).2.2) (N + 40001) Q at k
   revert ge k
   generalize Ls.go x.code n.toNat c.toNat x.m x.queue = r
   intro ge k
   obtain ⟨ge,gi,gq,gl,go⟩ := ge
   refine iteF ⟨_,rfl,d,CK,dxd,_,_,rfl,hd,TK.cK,TK.nM,kF_at,G.p,G.dx,_,rfl,I.ob,mF_go,_,rfl,_,rfl,G,W,x.code,_,N,n.toNat,c.toNat,by rw [Int.toNat_of_nonneg hn,Int.toNat_of_nonneg hc]; rfl,I,dki,dkq,cn,by omega,fun W1 H1 G1 ep f1 I1 => ?_⟩
   change MaAt C CC CM W1 H1 G1 x.code (goP x.code n.toNat c.toNat ⟨x.m,x.queue,[]⟩) _ at I1
   change Fr (ky CM G ⟨x.m,x.queue,out⟩) W H (ky CM G1 (goP x.code n.toNat c.toNat ⟨x.m,x.queue,[]⟩)) W1 H1 at f1
   rw [ge] at I1 f1
   rw [← ek] at f1
   obtain ⟨hd1,nd1,wd1⟩ := f1 _ _ hd D.nd D.wd
   refine ⟨one_line,fun z hz => ?_⟩
   have s2 : Same H1 (upd H1 z (.lst [V.int 0])) := Same.upd' (Same.refl H1) hz
   have I2 := I1.grow s2
   refine ⟨_,rfl,d,CK,dxd,_,_,rfl,s2 _ _ hd1,TK.cK,TK.nM,kF_at,G1.p,CM,G1.dx,_,_,by rw [ep],I2.ob,T.cM,T.nOut,mF_out ..,z,G1.ao,_,_,rfl,rfl,upd_same,I2.ou,by rw [List.length_map]; show 1 + r.2.2.length ≤ _; omega,?_⟩
   have D2 : DkAt C CC CM CK (upd H1 z (.lst [V.int 0])) d (some ⟨x.code,r.1,r.2.1⟩) (ky CM G1 ⟨r.1,r.2.1,r.2.2⟩) W1 (N + 40001) :=
    ⟨⟨dxd,_,s2 _ _ hd1,G1,r.2.2,by rw [ep],rfl,I2.more (by omega)⟩,nd1,wd1,gi,gq,dkc,by show r.2.1.length ≤ 4096; omega⟩
   have k2 : PostD C CC CM CK d (ky CM G1 ⟨r.1,r.2.1,r.2.2⟩) W1 (upd H1 z (.lst [V.int 0])) (some ⟨x.code,r.1,r.2.1⟩) (0 :: r.2.2) (N + 40001) Q := fun H' ks' W' p h1 h2 => k H' ks' W' p h1 (fun b o e e1 e2 e3 => by
    obtain ⟨x1,x2,x3⟩ := f1 b o e e2 e3
    exact h2 b o (s2 _ _ x1) e1 x2 x3)
   exact k2.plain D2 (Nat.le_refl _)
 ·rw [if_pos cn] at k
  rw [decide_eq_true (by omega)]
  exact iteT ⟨_,rfl,one_line,k.plain D (by omega)⟩
def spKState (C CC CM CK : Addr) : Sp := fun vs H Q _ => ∃ (d : Addr) (st : Ls.State) (ks : List Addr) (W : Hp) (N : Nat),vs = [.ref d] ∧ DkAt C CC CM CK H d st ks W N ∧ N + 40001 < 16000000 ∧
 PostD C CC CM CK d ks W H (LsNeutral.step st [[7]]).1 (LsNeutral.step st [[7]]).2 (N + 40001) Q
theorem scKState : FnScope ["self"] ["self"] (defScope sKState) := ⟨rfl,rfl,rfl,by decide +kernel,rfl,by decide +kernel,by decide +kernel⟩
theorem ok_kState {f fT : Addr} {fd fdT : FuncData} (F : Fun K "state" "Desk.state" sKState f fd) (T : MaT K mg CC CM) (TK : DkT K mg CK) (MT : Meth K CM "told" fT) (GT : FnOk P w K mg base CX0 6 fT fdT ["self"] (spMTold C CC CM)) (bT : Binds K fdT ["self"] []) : FnOk P w K mg base CX0 7 f fd ["self"] (spKState C CC CM CK) := by
 refine F.ok scKState (fun vs H Q E h => by obtain ⟨d,st,ks,W,N,rfl,_⟩ := h; rfl) (fun cdv A outer s0 H vs Q E hr h => ?_)
 obtain ⟨d,st,ks,W,N,rfl,D,hN,k⟩ := h
 refine ⟨_,pss_cons (ps_if (pt_cmpR op_isN (pe_fld (pv 0) rfl) pe_non (nomark _)) (pss_one (ps_ret (pe_lst (pa_cons (pe_un un_neg pe_int) pa_nil)))) pss_nil)
  (pss_one (ps_ret (pe_meth0 (pe_fld (pv 0) rfl) T.cM MT GT hr bT .nil pass0))),?_⟩
 rw [step_state] at k
 obtain ⟨dxd,v,hd,hv⟩ := D.ob
 refine ⟨_,rfl,d,CK,dxd,_,_,rfl,hd,TK.cK,TK.nM,kF_at,rfl,_,rfl,?_⟩
 cases st with
 | none =>
  obtain ⟨rfl,_,_⟩ := hv
  exact iteT ⟨_,rfl,one_line,k.plain D (by omega)⟩
 | some x =>
  obtain ⟨G,out,rfl,ek,I⟩ := hv
  obtain ⟨dki,dkq,dkc,dkl⟩ := D.dk
  rw [show decide (V.ref G.p = V.non) = false from decide_eq_false (fun z => nomatch z)]
  refine iteF ⟨_,rfl,d,CK,dxd,_,_,rfl,hd,TK.cK,TK.nM,kF_at,G.p,G.dx,_,rfl,I.ob,mF_told,G,W,x.code,_,N,rfl,I,dki,by omega,fun W1 H1 G1 p ep f1 I1 np wp nkp hp => ?_⟩
  rw [← ek] at f1 np
  obtain ⟨hd1,nd1,wd1⟩ := f1 _ _ hd D.nd D.wd
  refine k H1 (ky CM G1 ⟨x.m,x.queue,out⟩) W1 p ⟨⟨dxd,_,hd1,G1,out,by rw [ep],rfl,I1.more (by omega)⟩,nd1,wd1,dki,dkq,dkc,dkl⟩ (fun b o e e1 e2 e3 => ?_) nkp wp (np _ _ hd D.nd D.wd).symm hp
  obtain ⟨x1,x2,x3⟩ := f1 b o e e2 e3
  exact ⟨x1,x2,x3,np b o e e2 e3⟩
end
end Mc
namespace Mc
open PySem L2 Ins Ar R
theorem call_take {r t : List Int} {c : List (List Int)} (h : CallIs r c t) : CallIs (r.take (r.length - t.length)) c [] ∧ t.length < r.length ∧ r.drop (r.length - t.length) = t := by
 have key : ∀ (u : List Int),(u ++ t).length - t.length = u.length := fun u => by rw [List.length_append]; omega
 have e : ∀ (u : List Int),u ≠ [] → (u ++ t).take ((u ++ t).length - t.length) = u ∧ t.length < (u ++ t).length ∧ (u ++ t).drop ((u ++ t).length - t.length) = t := fun u hu => by
  rw [key,List.take_left,List.drop_left,List.length_append]
  have : u.length ≠ 0 := fun z => hu (List.length_eq_zero_iff.mp z)
  exact ⟨rfl,by omega,rfl⟩
 cases h with
 | load =>
  rename_i b
  have := e (4 :: (b.length : Int) :: b) (by simp)
  rw [show (4 :: (b.length : Int) :: b) ++ t = 4 :: (b.length : Int) :: (b ++ t) from rfl] at this
  refine ⟨?_,this.2⟩
  rw [this.1]
  have h := CallIs.load (b := b) (t := [])
  rw [List.append_nil] at h
  exact h
 | give =>
  rename_i b
  have := e (5 :: (b.length : Int) :: b) (by simp)
  rw [show (5 :: (b.length : Int) :: b) ++ t = 5 :: (b.length : Int) :: (b ++ t) from rfl] at this
  refine ⟨?_,this.2⟩
  rw [this.1]
  have h := CallIs.give (b := b) (t := [])
  rw [List.append_nil] at h
  exact h
 | go =>
  rename_i n c
  have := e [6,n,c] (by simp)
  rw [show [6,n,c] ++ t = 6 :: n :: c :: t from rfl] at this
  refine ⟨?_,this.2⟩
  rw [this.1]
  exact .go
 | state =>
  have := e [7] (by simp)
  rw [show [7] ++ t = 7 :: t from rfl] at this
  refine ⟨?_,this.2⟩
  rw [this.1]
  exact .state
theorem step_dk {st : Ls.State} {cv : List Int} {c : List (List Int)} (D : Dk st) (h : CallIs cv c []) : (LsNeutral.step st c).2.length ≤ 20001 := by
 cases h with
 | load => rw [step_load]; exact (by decide : (1 : Nat) ≤ 20001)
 | give =>
  rw [step_give]
  split
  ·exact (by decide : (1 : Nat) ≤ 20001)
  ·split
   ·exact (by decide : (1 : Nat) ≤ 20001)
   ·split <;> exact (by decide : (1 : Nat) ≤ 20001)
 | go =>
  rename_i n c
  rw [step_go]
  by_cases h : n.toNat ≤ 20000
  ·rw [if_neg (by simpa using h)]
   cases st with
   | none => exact (by decide : (1 : Nat) ≤ 20001)
   | some x =>
    have := (go_eq (code := x.code) (cap := c.toNat) n.toNat x.m x.queue [] D.1 D.2.1 (Nat.zero_le _)).2.2.2.2
    dsimp only [List.length_nil,Nat.sub_zero] at this
    show (0 :: (Ls.go x.code n.toNat c.toNat x.m x.queue).2.2).length ≤ 20001
    rw [List.length_cons]
    omega
  ·rw [if_pos h]; exact (by decide : (1 : Nat) ≤ 20001)
 | state =>
  rw [step_state]
  cases st with
  | none => exact (by decide : (1 : Nat) ≤ 20001)
  | some x => exact (by decide : (2 : Nat) ≤ 20001)
theorem head_at {l : List Int} {i : Nat} {p : Int} {r : List Int} (h : l.drop i = p :: r) : l[i]? = some p := by
 have : (l.drop i)[0]? = (p :: r)[0]? := by rw [h]
 rw [List.getElem?_drop,Nat.add_zero] at this
 exact this
theorem next_at {l : List Int} {i : Nat} {p q : Int} {r : List Int} (h : l.drop i = p :: q :: r) : l[i + 1]? = some q := by
 have : (l.drop i)[1]? = (p :: q :: r)[1]? := by rw [h]
 rw [List.getElem?_drop] at this
 exact this
theorem v_at {l : List Int} {i : Nat} {p : Int} (h : l[i]? = some p) : atI (l.map V.int) (i : Int) = some (V.int p) := atI_nat (by rw [List.getElem?_map,h]; rfl)
section
variable {P : Program} {w : World} {K : PySem.W.Frag} {mg : Str → Option Value} {base : Heap} {C CC CM CK aW aA aS aD : Addr} {wA fA fS fD : Nat → Addr}
def spCLen (K : PySem.W.Frag) : Sp := fun vs H Q _ => ∃ (L : Addr) (l : List Int) (i : Nat) (c : List (List Int)) (t : List Int),vs = [.ref L,.int (i : Int)] ∧ SqL K H L (l.map V.int) ∧ CallIs (l.drop i) c t ∧ ∀ H',Same H H' → Q (.int (((l.drop i).length - t.length : Nat) : Int)) H'
theorem scCLen : FnScope ["calls","at"] ["calls","at"] (defScope sCLen) := ⟨rfl,rfl,rfl,by decide +kernel,rfl,by decide +kernel,by decide +kernel⟩
theorem in45 (p : Int) : inV (V.int p) [.int 4,.int 5] = decide (p = 4 ∨ p = 5) := by
 show (([.int 4,.int 5] : List V).any fun y => eqV y (V.int p)) = _
 simp only [List.any_cons,List.any_nil,Bool.or_false,eqV]
 by_cases h1 : p = 4
 ·subst h1; rfl
 ·by_cases h2 : p = 5
  ·subst h2; rfl
  ·rw [decide_eq_false (by omega),beq_false_of_ne (fun z => h1 z.symm),beq_false_of_ne (fun z => h2 z.symm)]; rfl
theorem ok_cLen {f : Addr} {fd : FuncData} (F : Fun K "call_length" "call_length" sCLen f fd) (TK : DkT K mg CK) : FnOk P w K mg base CX0 1 f fd ["calls","at"] (spCLen K) := by
 refine F.ok scCLen (fun vs H Q E h => by obtain ⟨L,l,i,c,t,rfl,_⟩ := h; rfl) (fun cdv A outer s0 H vs Q E hr h => ?_)
 obtain ⟨L,l,i,c,t,rfl,hL,hc,k⟩ := h
 obtain ⟨t4,h4⟩ := TK.ld
 obtain ⟨t5,h5⟩ := TK.gv
 obtain ⟨t6,h6⟩ := TK.go
 refine ⟨_,pss_cons (ps_if (pt_cmpR op_in_seq (pe_ix ix_list (pv 0) (pv 1) (fun _ _ => rfl)) (pe_tup (pa_cons (pe_glob (v := V.int 4) (by rfl) h4 ⟨t4,rfl⟩) (pa_cons (pe_glob (v := V.int 5) (by rfl) h5 ⟨t5,rfl⟩) pa_nil))) rfl) (pss_one (ps_ret (pe_op op_add pe_int (pe_ix ix_list (pv 0) (pe_op op_add (pv 1) pe_int) (fun _ _ => rfl))))) pss_nil)
  (pss_one (ps_ret (pe_ifExp (pt_cmpR op_eq (pe_ix ix_list (pv 0) (pv 1) (fun _ _ => rfl)) (pe_glob (v := V.int 6) (by rfl) h6 ⟨t6,rfl⟩) (nomark _)) pe_int pe_int))),?_⟩
 have h2l : (2 : Nat) ≤ sizeLine := by have := line_big'; omega
 obtain ⟨p,r,er⟩ : ∃ p r,l.drop i = p :: r := by
  cases e : l.drop i with
  | nil => rw [e] at hc; cases hc
  | cons p r => exact ⟨p,r,rfl⟩
 have hp := v_at (head_at er)
 refine ⟨_,rfl,_,rfl,L,_,_,_,rfl,rfl,hL,hp,h2l,fun q hq => ⟨q,_,rfl,.inr (SqT.of upd_same),rfl,rfl,_,rfl,?_⟩⟩
 have s1 : Same H (upd H q (.tup [.int 4,.int 5])) := Same.upd' (Same.refl H) hq
 revert s1
 generalize upd H q (.tup [.int 4,.int 5]) = H1
 intro s1
 have hL1 := s1.seq hL
 have kk := k H1 s1
 show if inV (V.int p) [.int 4,.int 5] = true then _ else _
 rw [in45]
 have len2 : ∀ b : List Int,(p = 4 ∨ p = 5) → r = (b.length : Int) :: (b ++ t) → Q (.int (2 + (b.length : Int))) H1 := fun b hb e => by
  rw [er,e] at kk
  have : ((p :: (b.length : Int) :: (b ++ t)).length - t.length : Nat) = 2 + b.length := by simp only [List.length_cons,List.length_append]; omega
  rw [this] at kk
  exact kk
 rw [er] at hc
 cases hc with
 | load =>
  rename_i b
  refine iteT ⟨_,rfl,_,rfl,_,_,rfl,rfl,L,_,_,_,rfl,rfl,hL1,?_,_,_,rfl,rfl,len2 b (.inl rfl) rfl⟩
  have := v_at (next_at er)
  exact this
 | give =>
  rename_i b
  refine iteT ⟨_,rfl,_,rfl,_,_,rfl,rfl,L,_,_,_,rfl,rfl,hL1,?_,_,_,rfl,rfl,len2 b (.inr rfl) rfl⟩
  have := v_at (next_at er)
  exact this
 | go =>
  rename_i n c
  rw [er] at kk
  rw [show ((6 :: n :: c :: t).length - t.length : Nat) = 3 by simp only [List.length_cons]; omega] at kk
  exact iteF ⟨_,rfl,_,rfl,L,_,_,_,rfl,rfl,hL1,hp,rfl,_,rfl,iteT kk⟩
 | state =>
  rw [er] at kk
  rw [show ((7 :: t).length - t.length : Nat) = 1 by simp only [List.length_cons]; omega] at kk
  exact iteF ⟨_,rfl,_,rfl,L,_,_,_,rfl,rfl,hL1,hp,rfl,_,rfl,iteF kk⟩
def spAnsOf (C CC CM CK : Addr) : Sp := fun vs H Q _ => ∃ (d cl : Addr) (cv : List Int) (c : List (List Int)) (st : Ls.State) (ks : List Addr) (W : Hp) (N : Nat),vs = [.ref d,.ref cl] ∧ DkAt C CC CM CK H d st ks W N ∧ H cl = some (.lst (cv.map V.int)) ∧ CallIs cv c [] ∧ cv.length ≤ 16000 ∧ LsNeutral.asked1 c = true ∧ N + 40001 < 16000000 ∧
 PostD C CC CM CK d ks W H (LsNeutral.step st c).1 (LsNeutral.step st c).2 (N + 40001) Q
theorem scAnsOf : FnScope ["desk","call"] ["desk","call"] (defScope sAnsOf) := ⟨rfl,rfl,rfl,by decide +kernel,rfl,by decide +kernel,by decide +kernel⟩
theorem PostD.later {d : Addr} {ks : List Addr} {W H H1 : Hp} {st : Ls.State} {ans : List Int} {N : Nat} {Q : VK} (k : PostD C CC CM CK d ks W H st ans N Q) (s : Same H H1) : PostD C CC CM CK d ks W H1 st ans N Q := fun H' ks' W' p h1 h2 => k H' ks' W' p h1 (fun b o e => h2 b o (s _ _ e))
theorem PostD.more {d : Addr} {ks : List Addr} {W H : Hp} {st : Ls.State} {ans : List Int} {N M : Nat} {Q : VK} (k : PostD C CC CM CK d ks W H st ans M Q) (l : N ≤ M) : PostD C CC CM CK d ks W H st ans N Q := fun H' ks' W' p h1 => k H' ks' W' p (h1.more l)
theorem ok_ansOf {f fL fV fG fS' : Addr} {fd fdL fdV fdG fdS : FuncData} (F : Fun K "answer_of" "answer_of" sAnsOf f fd) (TK : DkT K mg CK)
  (ML : Meth K CK "load" fL) (GL : FnOk P w K mg base CX0 3 fL fdL ["self","code"] (spKLoad C CC CM CK)) (bL : Binds K fdL ["self","code"] [])
  (MV : Meth K CK "give" fV) (GV : FnOk P w K mg base CX0 2 fV fdV ["self","given"] (spKGive C CC CM CK)) (bV : Binds K fdV ["self","given"] [])
  (MG : Meth K CK "go" fG) (GG : FnOk P w K mg base CX0 7 fG fdG ["self","n","cap"] (spKGo C CC CM CK)) (bG : Binds K fdG ["self","n","cap"] [])
  (MS : Meth K CK "state" fS') (GS : FnOk P w K mg base CX0 7 fS' fdS ["self"] (spKState C CC CM CK)) (bS : Binds K fdS ["self"] []) : FnOk P w K mg base CX0 8 f fd ["desk","call"] (spAnsOf C CC CM CK) := by
 refine F.ok scAnsOf (fun vs H Q E h => by obtain ⟨d,cl,cv,c,st,ks,W,N,rfl,_⟩ := h; rfl) (fun cdv A outer s0 H vs Q E hr h => ?_)
 obtain ⟨d,cl,cv,c,st,ks,W,N,rfl,D,hcl,hc,hlen,hask,hN,k⟩ := h
 obtain ⟨t4,h4⟩ := TK.ld
 obtain ⟨t5,h5⟩ := TK.gv
 obtain ⟨t6,h6⟩ := TK.go
 have hr2 : Room 2 _ := hr.mono (by decide)
 have hr3 : Room 3 _ := hr.mono (by decide)
 refine ⟨_,pss_cons (ps_if (pt_cmpR op_eq (pe_ix ix_list (pv 1) pe_int (fun _ _ => rfl)) (pe_glob (v := V.int 4) (by rfl) h4 ⟨t4,rfl⟩) (nomark _)) (pss_one (ps_ret (pe_meth (pv 0) TK.cK ML GL hr3 bL .nil pass0 (pa_cons (pe_slice sl_list (pv 1) (po_some pe_int) po_none) pa_nil)))) pss_nil)
  (pss_cons (ps_if (pt_cmpR op_eq (pe_ix ix_list (pv 1) pe_int (fun _ _ => rfl)) (pe_glob (v := V.int 5) (by rfl) h5 ⟨t5,rfl⟩) (nomark _)) (pss_one (ps_ret (pe_meth (pv 0) TK.cK MV GV hr2 bV .nil pass0 (pa_cons (pe_slice sl_list (pv 1) (po_some pe_int) po_none) pa_nil)))) pss_nil)
  (pss_cons (ps_if (pt_cmpR op_eq (pe_ix ix_list (pv 1) pe_int (fun _ _ => rfl)) (pe_glob (v := V.int 6) (by rfl) h6 ⟨t6,rfl⟩) (nomark _)) (pss_one (ps_ret (pe_meth (pv 0) TK.cK MG GG hr bG .nil pass0 (pa_cons (pe_ix ix_list (pv 1) pe_int (fun _ _ => rfl)) (pa_cons (pe_ix ix_list (pv 1) pe_int (fun _ _ => rfl)) pa_nil))))) pss_nil)
  (pss_one (ps_ret (pe_meth0 (pv 0) TK.cK MS GS hr bS .nil pass0))))),?_⟩
 obtain ⟨dxd,v,hd,hv⟩ := D.ob
 cases hc with
 | load =>
  rename_i b
  rw [List.append_nil] at hcl hlen
  have hb : ∀ x ∈ b,0 ≤ x ∧ x ≤ 255 := fun x hx => by
   have := List.all_eq_true.mp hask x hx
   simp only [Bool.and_eq_true,decide_eq_true_eq] at this
   exact this
  have eb : vB (LsNeutral.text b) = b.map V.int := by
   unfold vB
   rw [show (fun c : UInt8 => V.int (c.toNat : Int)) = V.int ∘ (fun c : UInt8 => (c.toNat : Int)) from rfl,← List.map_map,Sh.text_back hb]
  have lb : (LsNeutral.text b).length = b.length := by unfold LsNeutral.text LsNeutral.nats; rw [List.length_map,List.length_map]
  rw [step_load,lb] at k
  simp only [List.length_cons] at hlen
  rw [if_neg (by omega),if_neg (by omega)] at k
  refine ⟨_,rfl,cl,_,_,_,rfl,rfl,SqL.of hcl,atI_nat (j := 0) rfl,rfl,_,rfl,iteT ⟨_,rfl,d,dxd,_,rfl,hd,rfl,_,rfl,_,rfl,cl,_,rfl,SqL.of hcl,fun a2 ha2 => ?_⟩⟩
  rw [show cutV ((4 :: (b.length : Int) :: b).map V.int) (some 2) none = b.map V.int from cut_from' _ 2]
  have s1 : Same H (upd H a2 (.lst (b.map V.int))) := Same.upd' (Same.refl H) ha2
  refine ⟨d,a2,LsNeutral.text b,st,ks,W,N,rfl,D.grow s1,by rw [eb]; exact upd_same,by omega,fun H' ks' W' p h1 h2 h3 h4 h5 h6 => ?_⟩
  exact k H' ks' W' p (h1.more (by omega)) (fun b o e e1 e2 e3 => h2 b o (s1 _ _ e) e1 (ne_of_none e ha2) e2 e3) h3 h4 h5 h6
 | give =>
  rename_i b
  rw [List.append_nil] at hcl hlen
  simp only [List.length_cons] at hlen
  refine ⟨_,rfl,cl,_,_,_,rfl,rfl,SqL.of hcl,atI_nat (j := 0) rfl,rfl,_,rfl,iteF ⟨_,rfl,cl,_,_,_,rfl,rfl,SqL.of hcl,atI_nat (j := 0) rfl,rfl,_,rfl,iteT ⟨_,rfl,d,dxd,_,rfl,hd,rfl,_,rfl,_,rfl,cl,_,rfl,SqL.of hcl,fun a2 ha2 => ?_⟩⟩⟩
  rw [show cutV ((5 :: (b.length : Int) :: b).map V.int) (some 2) none = b.map V.int from cut_from' _ 2]
  have s1 : Same H (upd H a2 (.lst (b.map V.int))) := Same.upd' (Same.refl H) ha2
  obtain ⟨g1,g2⟩ := hv.fresh ha2
  exact ⟨d,a2,b,st,ks,W,N,rfl,D.grow s1,upd_same,by omega,g1,g2,(k.later s1).more (by omega)⟩
 | go =>
  rename_i n c
  simp only [LsNeutral.asked1,Bool.and_eq_true,decide_eq_true_eq] at hask
  exact ⟨_,rfl,cl,_,_,_,rfl,rfl,SqL.of hcl,atI_nat (j := 0) rfl,rfl,_,rfl,iteF ⟨_,rfl,cl,_,_,_,rfl,rfl,SqL.of hcl,atI_nat (j := 0) rfl,rfl,_,rfl,iteF ⟨_,rfl,cl,_,_,_,rfl,rfl,SqL.of hcl,atI_nat (j := 0) rfl,rfl,_,rfl,iteT ⟨_,rfl,d,dxd,_,rfl,hd,rfl,_,rfl,cl,_,_,_,rfl,rfl,SqL.of hcl,atI_nat (j := 1) rfl,_,rfl,cl,_,_,_,rfl,rfl,SqL.of hcl,atI_nat (j := 2) rfl,d,n,c,st,ks,W,N,rfl,D,hask.1,hask.2,hN,k⟩⟩⟩⟩
 | state =>
  exact ⟨_,rfl,cl,_,_,_,rfl,rfl,SqL.of hcl,atI_nat (j := 0) rfl,rfl,_,rfl,iteF ⟨_,rfl,cl,_,_,_,rfl,rfl,SqL.of hcl,atI_nat (j := 0) rfl,rfl,_,rfl,iteF ⟨_,rfl,cl,_,_,_,rfl,rfl,SqL.of hcl,atI_nat (j := 0) rfl,rfl,_,rfl,iteF ⟨_,rfl,d,dxd,_,rfl,hd,rfl,d,st,ks,W,N,rfl,D,hN,k⟩⟩⟩⟩
end
end Mc
namespace Mc
open PySem L2 Ins Ar R
section
variable {P : Program} {w : World} {K : PySem.W.Frag} {mg : Str → Option Value} {base : Heap} {C CC CM CK aW aA aS aD : Addr} {wA fA fS fD : Nat → Addr}
def spKInit (CK : Addr) : Sp := fun vs H Q _ => ∃ (p dx : Addr),vs = [.ref p] ∧ H p = some (.ins CK dx []) ∧ Q .non (upd H p (.ins CK dx (kF .non)))
theorem scKInit : FnScope ["self"] ["self"] (defScope sKInit) := ⟨rfl,rfl,rfl,by decide +kernel,rfl,by decide +kernel,by decide +kernel⟩
theorem ok_kInit {f : Addr} {fd : FuncData} (F : Fun K "__init__" "Desk.__init__" sKInit f fd) (TK : DkT K mg CK) : FnOk P w K mg base CX0 1 f fd ["self"] (spKInit CK) := by
 refine F.ok scKInit (fun vs H Q E h => by obtain ⟨p,dx,rfl,_⟩ := h; rfl) (fun cdv A outer s0 H vs Q E hr h => ?_)
 obtain ⟨p,dx,rfl,hp,k⟩ := h
 exact ⟨_,pss_one (ps_fld (pv 0) pe_non rfl),_,rfl,p,CK,dx,[],rfl,hp,TK.cK,TK.nM,(by show 0 < 1000; decide),k⟩
def spAns (K : PySem.W.Frag) : Sp := fun vs H Q _ => ∃ (L : Addr) (l : List Int),vs = [.ref L] ∧ SqL K H L (l.map V.int) ∧ l.length ≤ 16000 ∧ PyWqaywc.answers_asked l = true ∧ ∀ H' p,Same H H' → H' p = some (.lst ((PyWqaywc.answers l).map V.int)) → Q (.ref p) H'
theorem scAns : FnScope ["calls","desk","found","at","length","answer"] ["calls"] (defScope sAns) := ⟨rfl,rfl,rfl,by decide +kernel,rfl,by decide +kernel,by decide +kernel⟩
theorem told_cons (a : List Int) (l : List (List Int)) : PyFlat.told (a :: l) = ((a.length : Int) :: a) ++ PyFlat.told l := by
 unfold PyFlat.told
 rw [List.flatMap_cons]
def AnsI (C CC CM CK : Addr) (l : List Int) (H : Hp) (L d F0 : Addr) (m : Nat) (σ : St) (H2 : Hp) : Prop := ∃ (v4 v5 : Option V) (i n : Nat) (fu : Nat) (cs' : List (List (List Int))) (fo : List Int) (st : Ls.State) (ks : List Addr) (W : Hp),
   m = l.length - i ∧ i ≤ l.length ∧ PyFlat.calls PyWqaywc.shape fu (l.drop i) = some cs' ∧ (∀ c ∈ cs',LsNeutral.asked1 c = true) ∧ n + cs'.length ≤ 300 ∧ fo.length ≤ n * 20002 ∧
   PyWqaywc.answers l = fo ++ PyFlat.told (PyFlat.played LsNeutral.step st cs') ∧ DkAt C CC CM CK H2 d st ks W (n * 40001) ∧ H2 F0 = some (.lst (fo.map V.int)) ∧ F0 ∉ ks ∧ W F0 = none ∧
   (∀ b o,H b = some o → H2 b = some o ∧ b ≠ d ∧ b ≠ F0 ∧ b ∉ ks ∧ W b = none) ∧
   σ = [some (.ref L),some (.ref d),some (.ref F0),some (.int (i : Int)),v4,v5]
theorem ok_ans {f fK fL fA' : Addr} {fd fdK fdL fdA : FuncData} (F : Fun K "answers" "answers" sAns f fd) (T : MaT K mg CC CM) (TK : DkT K mg CK)
  (MK : Mk K CK fK) (FK : Fun K "__init__" "Desk.__init__" sKInit fK fdK) (bK : Binds K fdK ["self"] [])
  (DL : Dn K mg "call_length" sCLen fL fdL ["calls","at"]) (DA : Dn K mg "answer_of" sAnsOf fA' fdA ["desk","call"])
  (GA : FnOk P w K mg base CX0 8 fA' fdA ["desk","call"] (spAnsOf C CC CM CK)) : FnOk P w K mg base CX0 9 f fd ["calls"] (spAns K) := by
 have GK : FnOk P w K mg base CX0 1 fK fdK ["self"] (spKInit CK) := ok_kInit FK TK
 have GL : FnOk P w K mg base CX0 1 fL fdL ["calls","at"] (spCLen K) := ok_cLen DL.fn TK
 refine F.ok scAns (fun vs H Q E h => by obtain ⟨L,l,rfl,_⟩ := h; rfl) (fun cdv A outer s0 H vs Q E hr h => ?_)
 obtain ⟨L,l,rfl,hL,hlen,hask,k⟩ := h
 obtain ⟨cs,hcs,hcl,hca,hans⟩ := answers_is hask
 have hr1 : Room 1 _ := hr.mono (by decide)
 have hr2 : Room 2 _ := hr.mono (by decide)
 have big : sizeLine = 16777216 := sizeLine_eq
 refine ⟨_,pss_cons (ps_set (i := 1) scAns.nd rfl (Or.inl rfl) (pe_make0 MK GK hr2 (by rfl) TK.mgK bK .nil pass0))
  (pss_cons (ps_set (i := 2) scAns.nd rfl (Or.inl rfl) (pe_lst pa_nil))
  (pss_cons (ps_set (i := 3) scAns.nd rfl (Or.inl rfl) pe_int)
  (pss_cons (ps_while PassesOwn.never (pt_cmpR op_lt (pv 3) (pe_callB call_len_seq (by rfl) T.len PySem.boot_len (pa_cons (pv 0) pa_nil)) (nomark _))
   (pss_cons (ps_set (i := 4) scAns.nd rfl (Or.inl rfl) (pe_call GL hr1 (by rfl) DL.at_ DL.fn.kp DL.bd .nil pass0 (pa_cons (pv 0) (pa_cons (pv 3) pa_nil))))
   (pss_cons (ps_set (i := 5) scAns.nd rfl (Or.inl rfl) (pe_call GA hr (by rfl) DA.at_ DA.fn.kp DA.bd .nil pass0 (pa_cons (pv 1) (pa_cons (pe_slice sl_list (pv 0) (po_some (pv 3)) (po_some (pe_op op_add (pv 3) (pv 4)))) pa_nil))))
   (pss_cons (ps_expr (pe_bm PySem.F.plainAttrs_list PySem.F.slot_list_append PySem.F.type_list_append mt_append (pv 2) (pa_cons (pe_callB call_len_seq (by rfl) T.len PySem.boot_len (pa_cons (pv 5) pa_nil)) pa_nil)))
   (pss_cons (ps_expr (pe_bm PySem.F.plainAttrs_list PySem.F.slot_list_extend PySem.F.type_list_extend mt_extend (pv 2) (pa_cons (pv 5) pa_nil)))
   (pss_one (ps_set (i := 3) scAns.nd rfl (Or.inl rfl) (pe_op op_add (pv 3) (pv 4)))))))))
  (pss_one (ps_ret (pv 2)))))),?_⟩
 intro d dx hd hdx ne
 refine ⟨d,dx,rfl,upd_same,rfl,?_⟩
 rw [upd_upd]
 have s1 : Same H (upd (upd H dx (.own d)) d (.ins CK dx (kF .non))) := fun b o e => by rw [upd_ne (ne_of_none e hd),upd_ne (ne_of_none e hdx)]; exact e
 have hd1 : (upd (upd H dx (.own d)) d (.ins CK dx (kF .non))) d = some (.ins CK dx (kF .non)) := upd_same
 revert s1 hd1
 show _ → _ → tSeq _ _ _ _ (upd (upd H dx (.own d)) d (.ins CK dx (kF .non)))
 generalize upd (upd H dx (.own d)) d (.ins CK dx (kF .non)) = H1
 intro s1 hd1
 refine ⟨zero_line,fun F0 hF0 => ?_⟩
 have s2 : Same H1 (upd H1 F0 (.lst [])) := Same.upd' (Same.refl _) hF0
 have nFd : F0 ≠ d := (ne_of_none hd1 hF0).symm
 refine ⟨AnsI C CC CM CK l H L d F0,⟨_,none,none,0,0,_,cs,[],Ls.start,[],fun _ => none,rfl,Nat.zero_le _,hcs,hca,by omega,Nat.zero_le _,hans,⟨⟨dx,.non,s2 _ _ hd1,rfl,rfl,rfl⟩,fun z => (nomatch z),rfl,trivial⟩,upd_same,fun z => (nomatch z),rfl,fun b o e => ⟨s2 _ _ (s1 _ _ e),ne_of_none e hd,ne_of_none (s1 _ _ e) hF0,fun z => (nomatch z),rfl⟩,rfl⟩,?_⟩
 rintro m σ H2 ⟨v4,v5,i,n,fu,cs',fo,st,ks,W,rfl,hi,hfu,hak,hn,hfo,hA,D,hF,nFk,nFw,fr,rfl⟩
 have hL2 : SqL K H2 L (l.map V.int) := Same.seq (fun b o e => (fr b o e).1) hL
 refine ⟨_,rfl,_,rfl,L,_,rfl,.inl hL2,_,_,rfl,rfl,_,rfl,?_⟩
 rw [List.length_map]
 by_cases c : i < l.length
 ·rw [decide_eq_true (by omega)]
  refine iteT ?_
  have hne : l.drop i ≠ [] := fun z => by
   have := congrArg List.length z
   rw [List.length_drop] at this
   simp at this
   omega
  obtain ⟨cc,t,cs'',fu',rfl,hfu',hcall,_⟩ := calls_is hfu hne
  obtain ⟨hc0,hlt,hdr⟩ := call_take hcall
  have hld : (l.drop i).length = l.length - i := List.length_drop
  refine ⟨fun σ' H' => ∃ m',m' < l.length - i ∧ AnsI C CC CM CK l H L d F0 m' σ' H',fun _ _ h => h,?_⟩
  ·refine ⟨_,rfl,_,rfl,L,l,i,cc,t,rfl,hL2,hcall,fun H3 s3 => ?_⟩
   have hL3 := s3.seq hL2
   generalize hk : (l.drop i).length - t.length = kk
   rw [hk] at hc0 hdr
   refine ⟨_,rfl,_,rfl,_,rfl,_,rfl,_,rfl,_,rfl,_,_,rfl,rfl,_,rfl,L,_,rfl,hL3,fun cl hcl0 => ?_⟩
   have ecut : cutV (l.map V.int) (some (i : Int)) (some ((i : Int) + (kk : Int))) = ((l.drop i).take kk).map V.int := by
    rw [show (i : Int) + (kk : Int) = ((i + kk : Nat) : Int) by omega,cut_mid',Nat.add_sub_cancel_left,List.map_take,List.map_drop]
   rw [ecut]
   have s4 : Same H3 (upd H3 cl (.lst (((l.drop i).take kk).map V.int))) := Same.upd' (Same.refl _) hcl0
   have D4 := (D.grow s3).grow s4
   refine ⟨d,cl,(l.drop i).take kk,cc,st,ks,W,n * 40001,rfl,D4,upd_same,hc0,?_,hak cc (by simp),?_,fun H5 ks' W' p D5 f5 npk npw npd hp5 => ?_⟩
   ·rw [List.length_take,hld]; omega
   ·simp only [List.length_cons] at hn; omega
   have hl5 := step_dk D.dk hc0
   have f24 : ∀ b o,H2 b = some o → b ≠ d → b ∉ ks → W b = none → H5 b = some o ∧ b ∉ ks' ∧ W' b = none ∧ b ≠ p := fun b o e => f5 b o (s4 _ _ (s3 _ _ e))
   obtain ⟨hF5,nFk5,nFw5,nFp⟩ := f24 _ _ hF nFd nFk nFw
   clear f5
   generalize ea : (LsNeutral.step st cc).2 = an at hp5 hl5
   generalize es : (LsNeutral.step st cc).1 = st' at D5
   refine ⟨_,rfl,.inl ⟨rfl,_,SqL.of hF5⟩,_,rfl,p,_,rfl,.inl (SqL.of hp5),F0,_,_,rfl,rfl,hF5,?_,?_⟩
   ·simp only [List.length_cons] at hn
    rw [List.length_map]; omega
   have hp6 : (upd H5 F0 (.lst (fo.map V.int ++ [V.int ((an.map V.int).length : Int)]))) p = some (.lst (an.map V.int)) := by rw [upd_ne nFp.symm]; exact hp5
   refine ⟨_,rfl,.inl ⟨rfl,_,SqL.of upd_same⟩,_,rfl,F0,p,_,_,rfl,rfl,upd_same,hp6,?_,?_⟩
   ·simp only [List.length_cons] at hn
    rw [List.length_append,List.length_map,List.length_map]
    simp only [List.length_cons,List.length_nil]
    omega
   rw [upd_upd,List.length_map]
   have efo : fo.map V.int ++ [V.int (an.length : Int)] ++ an.map V.int = (fo ++ ((an.length : Int) :: an)).map V.int := by simp
   rw [efo]
   have D6 := D5.off (o := .lst ((fo ++ ((an.length : Int) :: an)).map V.int)) nFd nFk5 nFw5
   refine ⟨_,rfl,_,rfl,_,_,rfl,rfl,?_⟩
   have ei : (i : Int) + (kk : Int) = ((i + kk : Nat) : Int) := by omega
   dsimp only
   rw [ei]
   exact ⟨l.length - (i + kk),by omega,_,_,i + kk,n + 1,fu',cs'',fo ++ ((an.length : Int) :: an),st',ks',W',rfl,by omega,by rw [← List.drop_drop,hdr]; exact hfu',fun c hc => hak c (List.mem_cons_of_mem _ hc),by simp only [List.length_cons] at hn; omega,
    by rw [List.length_append,List.length_cons]; omega,
    by rw [hA,PyFlat.played,told_cons,ea,es,List.append_assoc],
    by have := D6; rw [show (n + 1) * 40001 = n * 40001 + 40001 by omega]; exact this,upd_same,nFk5,nFw5,
    fun b o e => by
     obtain ⟨x1,x2,x3,x4,x5⟩ := fr b o e
     obtain ⟨y1,y2,y3,y4⟩ := f24 b o x1 x2 x4 x5
     exact ⟨by rw [upd_ne x3]; exact y1,x2,x3,y2,y3⟩,rfl⟩
 ·rw [decide_eq_false (by omega)]
  refine iteF ⟨_,rfl,?_⟩
  have hnil : l.drop i = [] := List.drop_eq_nil_of_le (by omega)
  rw [hnil] at hfu
  rw [calls_nil hfu] at hA
  refine k H2 F0 (fun b o e => (fr b o e).1) ?_
  rw [hA]
  show H2 F0 = some (.lst ((fo ++ []).map V.int))
  rw [List.append_nil]
  exact hF
end
end Mc
namespace Mc
open PySem L2 Ins Ar R
theorem widths_le : ∀ n,n < 21 → (∀ w ∈ Sh.widthsOf n,w ≤ 8) ∧ (Sh.widthsOf n).length ≤ 4 := by decide
theorem insT_mk {K : PySem.W.Frag} {h : Heap} {mg : Str → Option Value} {C aW : Addr} {tp tf tm : Tok} (X : K.In h) (G : h.Ns mainGlobals mg)
  (gP : PySem.W.nsIn K mainGlobals "PUSH" = some (some (.int 1 tp))) (gF : PySem.W.nsIn K mainGlobals "FIRST_BELOW_ZERO" = some (some (.int 9223372036854775808 tf))) (gM : PySem.W.nsIn K mainGlobals "PUSH_MODULUS" = some (some (.int 18446744073709551616 tm)))
  (gW : PySem.W.nsIn K mainGlobals "WIDTHS" = some (some (.ref aW))) (gC : PySem.W.nsIn K mainGlobals "Instruction" = some (some (.ref C)))
  (pg : PySem.W.plainGet K C Str.empty = true) (hd : PySem.W.hasDictIn K C = true) (po : PySem.W.plainOver K C = true) (sa : PySem.W.findIn K (.ref C) "__setattr__" = some (some (.builtin "object.__setattr__")))
  (nN : PySem.W.findIn K (.ref C) "number" = some none) (nO : PySem.W.findIn K (.ref C) "operands" = some none) (nS : PySem.W.findIn K (.ref C) "size" = some none)
  (bs : PySem.W.nsIn K mainGlobals "sum" = some none) (bl : PySem.W.nsIn K mainGlobals "len" = some none)
  (w1 : tabAt K aW = some ((List.range 21).map fun n => V.ref (refAt K aW n))) (w2 : (List.range 21).map (fun n => tabAt K (refAt K aW n)) = (List.range 21).map (fun n => some ((wI n).map V.int))) : InsT K mg C aW (refAt K aW) :=
 ⟨⟨tp,PySem.W.mg_of X G gP⟩,⟨tf,PySem.W.mg_of X G gF⟩,⟨tm,PySem.W.mg_of X G gM⟩,PySem.W.mg_of X G gW,tab_sq w1 (by rw [List.length_map,List.length_range]; decide),
  fun n hn H => tab_sq (range_at w2 hn) (by have := (widths_le n hn).2; unfold wI; rw [List.length_map,List.length_map]; omega) H,⟨pg,hd,po,sa⟩,nN,nO,nS,PySem.W.mg_of X G gC,PySem.W.mg_none_of X G bs,PySem.W.mg_none_of X G bl⟩
abbrev rw6 := PySem.Challenge.rw_linewords_s06_answers
theorem within6 {l : List Int} {u : Unit} (hw : PySem.W.Codec.withinAll rw6.args (l,u) = true) : l.length ≤ 16000 := by
 have h : ((PySem.W.Codec.inNat 0 16000 l.length && l.all (PySem.W.Codec.inInt (-18446744073709551615) 18446744073709551615)) && true) = true := hw
 simp only [Bool.and_eq_true,PySem.W.Codec.inInt_iff,PySem.W.Codec.inNat_iff,List.all_eq_true] at h
 exact h.1.1.2
theorem walk {q : Program} {loose : List Str} {XP : (Str → Option Value) → Heap → Prop} {YP : World → Heap → Prop} {d : DefRec} {K : PySem.Params → PySem.W.Frag} (said : rw6.wellSaid = true) (hdf : d.params.defaults = [])
  (hY : ∀ (w : World) (h : Heap),YP w h → (K w.params).In h)
  (F : ∀ (w : World) (mg : Str → Option Value) (fa : Addr) (h : Heap),(K w.params).In h → h.Ns mainGlobals mg → mg d.name = some (.ref fa) →
   ∃ fd : FuncData,Binds (K w.params) fd ["calls"] [] ∧ ∀ base : Heap,FnOk rw6.prog w (K w.params) mg base CX0 9 fa fd ["calls"] (spAns (K w.params))) :
  PySem.W.WalkOS q loose XP YP rw6 d [] (fun f vs => PySem.call f vs) := by
 refine L2.walk_os (r := rw6) (k := 9) (K := K) (sp := spAns) (args := fun (a : List Int × Unit) => [.ints a.1]) (ans := fun (a : List Int × Unit) => PyWqaywc.answers a.1) said hdf ⟨rfl,by decide,by decide⟩ (fun _ => rfl) (fun _ => rfl) ?_ hY ?_ ?_
 ·rintro ⟨l,u⟩ hw ns hm
  have h2 := within6 hw
  have e : ns = l := by simpa using hm
  subst e
  have := line_big'
  omega
 ·intro w mg fa h KX G hmg
  obtain ⟨fd,hb,hF⟩ := F w mg fa h KX G hmg
  exact ⟨fd,_,hb,fun _ => rfl,fun base _ _ => hF base⟩
 ·intro K ⟨l,u⟩ H vs hw hask hv
  have h2 := within6 hw
  cases hv with
  | cons a2 r2 =>
   cases r2
   obtain ⟨a,rfl,hs⟩ := a2
   exact ⟨a,l,rfl,hs,h2,hask,fun H' p _ hp => ⟨p,rfl,SqL.of hp⟩⟩
def pick (l : List Addr) (n : Nat) : Addr := l.getD n 0
theorem ari_mk {P : Program} {w : World} {K : PySem.W.Frag} {mg : Str → Option Value} {aA f1 f2 f3 f4 f5 f6 f7 : Addr} {d1 d2 d3 d4 d5 d6 d7 : FuncData}
  (D1 : Dn K mg "plus" sPlus f1 d1 ["a","b"]) (D2 : Dn K mg "minus" sMinus f2 d2 ["a","b"]) (D3 : Dn K mg "times" sTimes f3 d3 ["a","b"]) (D4 : Dn K mg "quotient" sQuo f4 d4 ["a","b"]) (D5 : Dn K mg "remainder" sRem f5 d5 ["a","b"]) (D6 : Dn K mg "less" sLess f6 d6 ["a","b"]) (D7 : Dn K mg "equal" sEqual f7 d7 ["a","b"])
  (hab : mg "abs" = none) (ops : mg nAri = some (.ref aA)) (c1 : ∃ t,mg "ADD" = some (.int 6 t)) (c2 : ∃ t,mg "DIV" = some (.int 9 t)) (c3 : ∃ t,mg "MOD" = some (.int 10 t)) (c4 : ∃ t,mg "LEAST_NUMBER" = some (.int (-9223372036854775808) t)) (c5 : ∃ t,mg "MOST_NUMBER" = some (.int 9223372036854775807 t)) (c6 : ∃ t,mg "BY_ZERO" = some (.int 2 t)) (c7 : ∃ t,mg "OUT_OF_RANGE" = some (.int 1 t)) (c8 : ∃ t,mg "GOES_ON" = some (.int 7 t))
  (tb : tabAt K aA = some ((List.range 7).map fun n => V.ref (pick [f1,f2,f3,f4,f5,f6,f7] n))) : AriT P w K mg aA (pick [f1,f2,f3,f4,f5,f6,f7]) :=
 ⟨ops,tab_sq tb (by rw [List.length_map,List.length_range]; decide),fun base o ho => match o,ho with
  | 0,_ => ⟨d1,ok_plus D1.fn,D1.fn.kp,D1.bd⟩
  | 1,_ => ⟨d2,ok_minus D2.fn,D2.fn.kp,D2.bd⟩
  | 2,_ => ⟨d3,ok_times D3.fn,D3.fn.kp,D3.bd⟩
  | 3,_ => ⟨d4,ok_quo D4.fn hab,D4.fn.kp,D4.bd⟩
  | 4,_ => ⟨d5,ok_rem D5.fn hab,D5.fn.kp,D5.bd⟩
  | 5,_ => ⟨d6,ok_less D6.fn,D6.fn.kp,D6.bd⟩
  | 6,_ => ⟨d7,ok_equal D7.fn,D7.fn.kp,D7.bd⟩
  | o + 7,h => absurd h (by omega),c1,c2,c3,c4,c5,c6,c7,c8⟩
theorem spV_imp {C CC CM : Addr} {val : Sd → Nat} {n : Nat} (e : ∀ ops s,stdN n ops s.m s.q = val s) : ∀ vs H Q E,spI C CC CM n vs H Q E → spV C CC CM val vs H Q E := by
 rintro vs H Q E ⟨G,x,W,code,s,N,ops,rfl,I,iv,hx,wf,k⟩
 exact ⟨G,.ref x,W,code,s,N,rfl,I,iv,by rw [← e ops]; exact k H (Same.refl H)⟩
theorem tab_mk {P : Program} {w : World} {K : PySem.W.Frag} {mg : Str → Option Value} {C CC CM aW aA aS aD : Addr} {wA fA : Nat → Addr} {s0 s1 s2 s3 s4 s5 s6 s7 s8 s9 a0 a1 a2 a3 a4 a5 a6 a7 a8 a9 a10 a11 a12 a13 a14 fo fst fre fiv fr fci : Addr} {x0 x1 x2 x3 x4 x5 x6 x7 x8 x9 y0 y1 y2 y3 y4 y5 y6 y7 y8 y9 y10 y11 y12 y13 y14 do_ dst dre div dr dci : FuncData}
  (T : MaT K mg CC CM) (TI : InsT K mg C aW wA) (TA : AriT P w K mg aA fA) (DO : Dn K mg "has_own_number" sHasOwn fo do_ ["machine","instruction"]) (DR : Dn K mg "in_range" sInRange fr dr ["number"]) (DST : Dn K mg "operation_standing" sOpStd fst dst ["number","a","b"]) (DRE : Dn K mg "operation_result" sOpRes fre dre ["number","a","b"]) (DIV : Dn K mg "inverse" sInv fiv div ["a"])
  (MC : Mt K CC "__init__" "Call.__init__" sCallInit fci dci ["self","back","own"]) (mkC : PySem.W.makesIn K CC = true) (kcC : PySem.W.keepIn K (.ref CC) = true)
  (S0 : Dn K mg "standing_of_halt" sSHalt s0 x0 ["machine","instruction"]) (S1 : Dn K mg "standing_with_nothing_needed" sSNone s1 x1 ["machine","instruction"]) (S2 : Dn K mg "standing_with_room_needed" sSRoom s2 x2 ["machine","instruction"]) (S3 : Dn K mg "standing_with_one_needed" sSOne s3 x3 ["machine","instruction"]) (S4 : Dn K mg "standing_of_loadl" sSLoadl s4 x4 ["machine","instruction"]) (S5 : Dn K mg "standing_of_storel" sSStorel s5 x5 ["machine","instruction"]) (S6 : Dn K mg "standing_of_operation" sSOp s6 x6 ["machine","instruction"]) (S7 : Dn K mg "standing_of_call" sSCall s7 x7 ["machine","instruction"]) (S8 : Dn K mg "standing_of_ret" sSRet s8 x8 ["machine","instruction"]) (S9 : Dn K mg "standing_of_get" sSGet s9 x9 ["machine","instruction"])
  (A0 : Dn K mg "do_nothing" sDNone a0 y0 ["machine","instruction"]) (A1 : Dn K mg "do_push" sDPush a1 y1 ["machine","instruction"]) (A2 : Dn K mg "do_load" sDLoad a2 y2 ["machine","instruction"]) (A3 : Dn K mg "do_store" sDStore a3 y3 ["machine","instruction"]) (A4 : Dn K mg "do_loadl" sDLoadl a4 y4 ["machine","instruction"]) (A5 : Dn K mg "do_storel" sDStorel a5 y5 ["machine","instruction"]) (A6 : Dn K mg "do_operation" sDOp a6 y6 ["machine","instruction"]) (A7 : Dn K mg "do_not" sDNot a7 y7 ["machine","instruction"]) (A8 : Dn K mg "do_jmp" sDJmp a8 y8 ["machine","instruction"]) (A9 : Dn K mg "do_jz" sDJz a9 y9 ["machine","instruction"]) (A10 : Dn K mg "do_call" sDCall a10 y10 ["machine","instruction"]) (A11 : Dn K mg "do_ret" sDRet a11 y11 ["machine","instruction"]) (A12 : Dn K mg "do_put" sDPut a12 y12 ["machine","instruction"]) (A13 : Dn K mg "do_get" sDGet a13 y13 ["machine","instruction"]) (A14 : Dn K mg "do_line" sDLine a14 y14 ["machine","instruction"])
  (gs : mg "STANDINGS" = some (.ref aS)) (ga : mg "ACTIONS" = some (.ref aD)) (ts : tabAt K aS = some ((List.range 21).map fun n => V.ref (pick [s0,s2,s2,s3,s4,s5,s6,s6,s6,s6,s6,s6,s6,s3,s1,s3,s7,s8,s3,s9,s1] n))) (ta : tabAt K aD = some ((List.range 21).map fun n => V.ref (pick [a0,a1,a2,a3,a4,a5,a6,a6,a6,a6,a6,a6,a6,a7,a8,a9,a10,a11,a12,a13,a14] n))) : TabT P w K mg C CC CM aS aD (pick [s0,s2,s2,s3,s4,s5,s6,s6,s6,s6,s6,s6,s6,s3,s1,s3,s7,s8,s3,s9,s1]) (pick [a0,a1,a2,a3,a4,a5,a6,a6,a6,a6,a6,a6,a6,a7,a8,a9,a10,a11,a12,a13,a14]) := by
 have GS : ∀ base : Heap,FnOk P w K mg base CX0 2 fst dst ["number","a","b"] spStd := fun base => ok_std DST.fn TA DR
 have GR : ∀ base : Heap,FnOk P w K mg base CX0 2 fre dre ["number","a","b"] spRes := fun base => ok_res DRE.fn TA
 refine ⟨gs,tab_sq ts (by rw [List.length_map,List.length_range]; decide),ga,tab_sq ta (by rw [List.length_map,List.length_range]; decide),fun base n hn => ?_,fun base n hn => ?_⟩
 ·match n,hn with
  | 0,_ => exact ⟨x0,((ok_sHalt S0.fn T).mono (by decide : 1 ≤ 3)).imp (spV_imp fun _ _ => rfl),S0.fn.kp,S0.bd⟩
  | 1,_ => exact ⟨x2,((ok_sRoom S2.fn T).mono (by decide : 1 ≤ 3)).imp (spV_imp fun _ _ => rfl),S2.fn.kp,S2.bd⟩
  | 2,_ => exact ⟨x2,((ok_sRoom S2.fn T).mono (by decide : 1 ≤ 3)).imp (spV_imp fun _ _ => rfl),S2.fn.kp,S2.bd⟩
  | 3,_ => exact ⟨x3,((ok_sOne S3.fn T).mono (by decide : 1 ≤ 3)).imp (spV_imp fun _ _ => rfl),S3.fn.kp,S3.bd⟩
  | 4,_ => exact ⟨x4,(ok_sLoadl S4.fn T TI DO S2).mono (by decide : 2 ≤ 3),S4.fn.kp,S4.bd⟩
  | 5,_ => exact ⟨x5,(ok_sStorel S5.fn T TI DO S3).mono (by decide : 2 ≤ 3),S5.fn.kp,S5.bd⟩
  | 6,_ => exact ⟨x6,ok_sOp (o := 0) (by decide) S6.fn T TI DST (GS base),S6.fn.kp,S6.bd⟩
  | 7,_ => exact ⟨x6,ok_sOp (o := 1) (by decide) S6.fn T TI DST (GS base),S6.fn.kp,S6.bd⟩
  | 8,_ => exact ⟨x6,ok_sOp (o := 2) (by decide) S6.fn T TI DST (GS base),S6.fn.kp,S6.bd⟩
  | 9,_ => exact ⟨x6,ok_sOp (o := 3) (by decide) S6.fn T TI DST (GS base),S6.fn.kp,S6.bd⟩
  | 10,_ => exact ⟨x6,ok_sOp (o := 4) (by decide) S6.fn T TI DST (GS base),S6.fn.kp,S6.bd⟩
  | 11,_ => exact ⟨x6,ok_sOp (o := 5) (by decide) S6.fn T TI DST (GS base),S6.fn.kp,S6.bd⟩
  | 12,_ => exact ⟨x6,ok_sOp (o := 6) (by decide) S6.fn T TI DST (GS base),S6.fn.kp,S6.bd⟩
  | 13,_ => exact ⟨x3,((ok_sOne S3.fn T).mono (by decide : 1 ≤ 3)).imp (spV_imp fun _ _ => rfl),S3.fn.kp,S3.bd⟩
  | 14,_ => exact ⟨x1,((ok_sNone S1.fn T).mono (by decide : 1 ≤ 3)).imp (spV_imp fun _ _ => rfl),S1.fn.kp,S1.bd⟩
  | 15,_ => exact ⟨x3,((ok_sOne S3.fn T).mono (by decide : 1 ≤ 3)).imp (spV_imp fun _ _ => rfl),S3.fn.kp,S3.bd⟩
  | 16,_ => exact ⟨x7,(ok_sCall S7.fn T TI).mono (by decide : 1 ≤ 3),S7.fn.kp,S7.bd⟩
  | 17,_ => exact ⟨x8,((ok_sRet S8.fn T).mono (by decide : 1 ≤ 3)).imp (spV_imp fun _ _ => rfl),S8.fn.kp,S8.bd⟩
  | 18,_ => exact ⟨x3,((ok_sOne S3.fn T).mono (by decide : 1 ≤ 3)).imp (spV_imp fun _ _ => rfl),S3.fn.kp,S3.bd⟩
  | 19,_ => exact ⟨x9,((ok_sGet S9.fn T).mono (by decide : 1 ≤ 3)).imp (spV_imp fun _ _ => rfl),S9.fn.kp,S9.bd⟩
  | 20,_ => exact ⟨x1,((ok_sNone S1.fn T).mono (by decide : 1 ≤ 3)).imp (spV_imp fun _ _ => rfl),S1.fn.kp,S1.bd⟩
  | n + 21,h => exact absurd h (by omega)
 ·match n,hn with
  | 0,_ => exact ⟨y0,(ok_dNone A0.fn).mono (by decide : 1 ≤ 3),A0.fn.kp,A0.bd⟩
  | 1,_ => exact ⟨y1,(ok_dPush A1.fn T TI).mono (by decide : 1 ≤ 3),A1.fn.kp,A1.bd⟩
  | 2,_ => exact ⟨y2,(ok_dLoad A2.fn T TI).mono (by decide : 1 ≤ 3),A2.fn.kp,A2.bd⟩
  | 3,_ => exact ⟨y3,(ok_dStore A3.fn T TI).mono (by decide : 1 ≤ 3),A3.fn.kp,A3.bd⟩
  | 4,_ => exact ⟨y4,(ok_dLoadl A4.fn T TI).mono (by decide : 1 ≤ 3),A4.fn.kp,A4.bd⟩
  | 5,_ => exact ⟨y5,(ok_dStorel A5.fn T TI).mono (by decide : 1 ≤ 3),A5.fn.kp,A5.bd⟩
  | 6,_ => exact ⟨y6,ok_dOp (o := 0) (by decide) A6.fn T TI DRE (GR base),A6.fn.kp,A6.bd⟩
  | 7,_ => exact ⟨y6,ok_dOp (o := 1) (by decide) A6.fn T TI DRE (GR base),A6.fn.kp,A6.bd⟩
  | 8,_ => exact ⟨y6,ok_dOp (o := 2) (by decide) A6.fn T TI DRE (GR base),A6.fn.kp,A6.bd⟩
  | 9,_ => exact ⟨y6,ok_dOp (o := 3) (by decide) A6.fn T TI DRE (GR base),A6.fn.kp,A6.bd⟩
  | 10,_ => exact ⟨y6,ok_dOp (o := 4) (by decide) A6.fn T TI DRE (GR base),A6.fn.kp,A6.bd⟩
  | 11,_ => exact ⟨y6,ok_dOp (o := 5) (by decide) A6.fn T TI DRE (GR base),A6.fn.kp,A6.bd⟩
  | 12,_ => exact ⟨y6,ok_dOp (o := 6) (by decide) A6.fn T TI DRE (GR base),A6.fn.kp,A6.bd⟩
  | 13,_ => exact ⟨y7,(ok_dNot A7.fn T DIV).mono (by decide : 2 ≤ 3),A7.fn.kp,A7.bd⟩
  | 14,_ => exact ⟨y8,(ok_dJmp A8.fn T TI).mono (by decide : 1 ≤ 3),A8.fn.kp,A8.bd⟩
  | 15,_ => exact ⟨y9,(ok_dJz A9.fn T TI).mono (by decide : 1 ≤ 3),A9.fn.kp,A9.bd⟩
  | 16,_ => exact ⟨y10,ok_dCall A10.fn T TI ⟨mkC,MC.me.at_,MC.me.fn,kcC⟩ MC.fn MC.bd,A10.fn.kp,A10.bd⟩
  | 17,_ => exact ⟨y11,(ok_dRet A11.fn T).mono (by decide : 1 ≤ 3),A11.fn.kp,A11.bd⟩
  | 18,_ => exact ⟨y12,(ok_dPut A12.fn T).mono (by decide : 1 ≤ 3),A12.fn.kp,A12.bd⟩
  | 19,_ => exact ⟨y13,(ok_dGet A13.fn T).mono (by decide : 1 ≤ 3),A13.fn.kp,A13.bd⟩
  | 20,_ => exact ⟨y14,(ok_dLine A14.fn T TI).mono (by decide : 1 ≤ 3),A14.fn.kp,A14.bd⟩
  | n + 21,h => exact absurd h (by omega)
theorem maT_mk {K : PySem.W.Frag} {h : Heap} {mg : Str → Option Value} {CC CM : Addr} (X : K.In h) (G : h.Ns mainGlobals mg) (c0 : ∃ t,mg "ENDED" = some (.int 0 t)) (c1 : ∃ t,mg "TOO_MANY_CALLS" = some (.int 3 t)) (c2 : ∃ t,mg "IMPOSSIBLE" = some (.int 4 t)) (c3 : ∃ t,mg "FULL_STACK" = some (.int 5 t)) (c4 : ∃ t,mg "WAITING" = some (.int 6 t)) (c5 : ∃ t,mg "GOES_ON" = some (.int 7 t)) (c6 : ∃ t,mg "MOST_CALLS" = some (.int 200 t)) (c7 : ∃ t,mg "MOST_STACKED" = some (.int 1024 t)) (c8 : ∃ t,mg "SHARED_NUMBERS" = some (.int 256 t)) (c9 : ∃ t,mg "PUT" = some (.int 18 t))
  (p1 : PySem.W.plainGet K CC Str.empty = true) (q1 : PySem.W.hasDictIn K CC = true) (r1 : PySem.W.plainOver K CC = true) (t1 : PySem.W.findIn K (.ref CC) "__setattr__" = some (some (.builtin "object.__setattr__"))) (n1 : PySem.W.findIn K (.ref CC) "back" = some none) (n2 : PySem.W.findIn K (.ref CC) "own" = some none)
  (p2 : PySem.W.plainGet K CM Str.empty = true) (q2 : PySem.W.hasDictIn K CM = true) (r2 : PySem.W.plainOver K CM = true) (t2 : PySem.W.findIn K (.ref CM) "__setattr__" = some (some (.builtin "object.__setattr__"))) (m0 : PySem.W.findIn K (.ref CM) "code" = some none) (m1 : PySem.W.findIn K (.ref CM) "met" = some none) (m2 : PySem.W.findIn K (.ref CM) "at" = some none) (m3 : PySem.W.findIn K (.ref CM) "stack" = some none) (m4 : PySem.W.findIn K (.ref CM) "shared" = some none) (m5 : PySem.W.findIn K (.ref CM) "calls" = some none) (m6 : PySem.W.findIn K (.ref CM) "line" = some none) (m7 : PySem.W.findIn K (.ref CM) "waiting" = some none) (m8 : PySem.W.findIn K (.ref CM) "out" = some none)
  (gC : PySem.W.nsIn K mainGlobals "Call" = some (some (.ref CC))) (gM : PySem.W.nsIn K mainGlobals "Machine" = some (some (.ref CM))) (gl : PySem.W.nsIn K mainGlobals "len" = some none) (gr : PySem.W.nsIn K mainGlobals "range" = some none) : MaT K mg CC CM :=
 ⟨c0,c1,c2,c3,c4,c5,c6,c7,c8,c9,⟨p1,q1,r1,t1⟩,n1,n2,⟨p2,q2,r2,t2⟩,m0,m1,m2,m3,m4,m5,m6,m7,m8,PySem.W.mg_of X G gC,PySem.W.mg_of X G gM,PySem.W.mg_none_of X G gl,PySem.W.mg_none_of X G gr⟩
theorem dkT_mk {K : PySem.W.Frag} {h : Heap} {mg : Str → Option Value} {CK : Addr} (X : K.In h) (G : h.Ns mainGlobals mg) (p1 : PySem.W.plainGet K CK Str.empty = true) (q1 : PySem.W.hasDictIn K CK = true) (r1 : PySem.W.plainOver K CK = true) (t1 : PySem.W.findIn K (.ref CK) "__setattr__" = some (some (.builtin "object.__setattr__"))) (n1 : PySem.W.findIn K (.ref CK) "machine" = some none) (gK : PySem.W.nsIn K mainGlobals "Desk" = some (some (.ref CK)))
  (c0 : ∃ t,mg "LOAD" = some (.int 4 t)) (c1 : ∃ t,mg "GIVE" = some (.int 5 t)) (c2 : ∃ t,mg "GO" = some (.int 6 t)) (c3 : ∃ t,mg "MOST_CODE" = some (.int 262208 t)) (c4 : ∃ t,mg "MOST_WAITING" = some (.int 4096 t)) (c5 : ∃ t,mg "MOST_STEPS" = some (.int 20000 t)) (ga : PySem.W.nsIn K mainGlobals "all" = some none) : DkT K mg CK :=
 ⟨⟨p1,q1,r1,t1⟩,n1,PySem.W.mg_of X G gK,c0,c1,c2,c3,c4,c5,PySem.W.mg_none_of X G ga⟩
theorem all_mk {w : World} {K : PySem.W.Frag} {mg : Str → Option Value} {C CC CM CK aW aA aS aD fa g1 g2 g3 g4 g5 g6 g7 e1 e2 e3 e4 e5 e6 k1 k2 k3 k4 k5 : Addr} {wA fA fS fD : Nat → Addr} {l1 l2 l3 l4 l5 l6 l7 d1 d2 d3 d4 d5 d6 h1 h2 h3 h4 h5 : FuncData}
  (hfa : mg "answers" = some (.ref fa)) (T : MaT K mg CC CM) (TI : InsT K mg C aW wA) (TA : AriT rw6.prog w K mg aA fA) (TK : DkT K mg CK) (TT : MaT K mg CC CM → InsT K mg C aW wA → AriT rw6.prog w K mg aA fA → TabT rw6.prog w K mg C CC CM aS aD fS fD) (hrev : mg "reversed" = none)
  (DAt : Dn K mg "instruction_at" sAt g1 l1 ["code","at"]) (DOp : Dn K mg "operand_at" sOper g2 l2 ["code","at","width"]) (DTl : Dn K mg "standing_and_line" sTellS g3 l3 ["standing","line"]) (DR : Dn K mg "in_range" sInRange g4 l4 ["number"])
  (DL : Dn K mg "call_length" sCLen g5 l5 ["calls","at"]) (DA : Dn K mg "answer_of" sAnsOf g6 l6 ["desk","call"]) (D : Dn K mg "answers" sAns g7 l7 ["calls"])
  (MI : Mt K C "__init__" "Instruction.__init__" sInit e1 d1 ["self","number","operands"]) (mkI : PySem.W.makesIn K C = true) (kcI : PySem.W.keepIn K (.ref C) = true)
  (M0 : Mt K CM "__init__" "Machine.__init__" sMInit e2 d2 ["self","code"]) (mkM : PySem.W.makesIn K CM = true) (kcM : PySem.W.keepIn K (.ref CM) = true)
  (M1 : Mt K CM "instruction_here" "Machine.instruction_here" sMHere e3 d3 ["self"]) (M2 : Mt K CM "standing" "Machine.standing" sMStd e4 d4 ["self"]) (M3 : Mt K CM "told" "Machine.told" sMTold e5 d5 ["self"]) (M4 : Mt K CM "go" "Machine.go" sMGo e6 d6 ["self","n","cap"])
  (K0 : Mt K CK "__init__" "Desk.__init__" sKInit k1 h1 ["self"]) (mkK : PySem.W.makesIn K CK = true) (kcK : PySem.W.keepIn K (.ref CK) = true)
  (K1 : Mt K CK "load" "Desk.load" sKLoad k2 h2 ["self","code"]) (K2 : Mt K CK "give" "Desk.give" sKGive k3 h3 ["self","given"]) (K3 : Mt K CK "go" "Desk.go" sKGo k4 h4 ["self","n","cap"]) (K4 : Mt K CK "state" "Desk.state" sKState k5 h5 ["self"]) :
  ∃ fd : FuncData,Binds K fd ["calls"] [] ∧ ∀ base : Heap,FnOk rw6.prog w K mg base CX0 9 fa fd ["calls"] (spAns K) := by
 have e := hfa.symm.trans D.at_
 cases e
 refine ⟨l7,D.bd,fun base => ?_⟩
 have TT := TT T TI TA
 have GA : FnOk rw6.prog w K mg base CX0 3 g1 l1 ["code","at"] (spAt K C) := ok_at DAt TI hrev DOp ⟨mkI,MI.me.at_,MI.me.fn,kcI⟩ MI.fn MI.bd
 have GH : FnOk rw6.prog w K mg base CX0 4 e3 d3 ["self"] (spHere C CC CM) := ok_here M1.fn T DAt GA
 have GS : FnOk rw6.prog w K mg base CX0 5 e4 d4 ["self"] (spMStd C CC CM) := ok_mStd M2.fn T TI TT M1.me GH M1.bd
 have GT : FnOk rw6.prog w K mg base CX0 6 e5 d5 ["self"] (spMTold C CC CM) := ok_mTold M3.fn T TA.outr DTl M2.me GS M2.bd
 have GG : FnOk rw6.prog w K mg base CX0 6 e6 d6 ["self","n","cap"] (spMGo C CC CM) := ok_mGo M4.fn T TI TT M2.me GS M2.bd M1.me GH M1.bd
 exact ok_ans D.fn T TK ⟨mkK,K0.me.at_,K0.me.fn,kcK⟩ K0.fn K0.bd DL DA
  (ok_ansOf DA.fn TK K1.me (ok_kLoad K1.fn T TK ⟨mkM,M0.me.at_,M0.me.fn,kcM⟩ M0.fn M0.bd) K1.bd K2.me (ok_kGive K2.fn T TK TA DR) K2.bd K3.me (ok_kGo K3.fn T TK M4.me GG M4.bd) K3.bd K4.me (ok_kState K4.fn T TK M3.me GT M3.bd) K4.bd)
end Mc
namespace PySem.W.Fast
end PySem.W.Fast
namespace PySem.W.Fast
def tw15403621672587671429:=()
def tw10464396243914274716:=()
def tw10633333822628477287:=()
def tw2241996292830659283:=()
def tw9351935647311772812:=()
def tw14988166702265914358:=()
def tw9015796963305910376:=()
def tw11406711897044877828:=()
def tw14614480694340343996:=()
def tw12297719859789504900:=()
def tw3270490200703266109:=()
def tw13141390405933515945:=()
def tw1878995373002598784:=()
def tw11551327990307399667:=()
def tw18141156040605427477:=()
def tw5026566413863661192:=()
def tw13362906282949140205:=()
def tw17482820528187253664:=()
def tw15962058491414708207:=()
def tw3807097472483072834:=()
def tw9225140455394879170:=()
def tw7918887311829833821:=()
def tw17182635501891196130:=()
def tw13780013845315231545:=()
def tw14786681928089393520:=()
def tw17740147158082877659:=()
def tw1970769111397796985:=()
def tw2521704372924688933:=()
def tw4157862575204777675:=()
def tw3645594303731794488:=()
def tw13112281288567904027:=()
def tw5794899888512150669:=()
def tw15566216885599489912:=()
def tw10014759157261468632:=()
def tw17354140285431384445:=()
def tw11036793068874766248:=()
def tw1134652080064953815:=()
def tw9506841295199832353:=()
def tw4835986758087289199:=()
def tw14003133350775128684:=()
def tw15730345925493190981:=()
def tw378792190035950496:=()
def tw16434694954929784910:=()
def tw1164806927360957000:=()
def tw6191187416592435163:=()
def tw6774031865173694222:=()
def tw12675220052982382381:=()
def tw547325360397898193:=()
def tw282525522534901973:=()
def tw10355405624739267985:=()
def tw473594007260511990:=()
def tw3208990108976729364:=()
def tw16836443311497540213:=()
def tw7419729620316676682:=()
def tw2382490842268577572:=()
def tw14109903908398769748:=()
def tw2592150079493643326:=()
def tw10557495189910870045:=()
def tw16347411126520259446:=()
def tw6255036851900885630:=()
def tw4130370038710085306:=()
def tw1770490561327888248:=()
def tw17122825738857227621:=()
def tw3196063558215578578:=()
def tw13583093315789702152:=()
def tw12745739207936842064:=()
def tw1690357752993009142:=()
def tw788245014103260234:=()
def tw2758949150454838765:=()
def tw7607708597323180582:=()
def tw3114403206440555187:=()
def tw1050991388925187850:=()
def tw12973277330037154109:=()
def tw4288870365211887353:=()
def tw14967223775641826715:=()
def tw5606829837802446680:=()
def tw2877241126739272824:=()
def tw13974151685646308205:=()
def tw6571137991533156233:=()
def tw1716478633108490822:=()
def tw734321254871304726:=()
def tw10458716957998806841:=()
def tw5548449794640994175:=()
def tw14777046261506391210:=()
def tw6105383626960463565:=()
def tw346051067716268693:=()
def tw8909625397901829088:=()
def tw14773971450350405649:=()
def tw13783373229885938904:=()
def tw12959551711723101864:=()
def tw13101927821296242345:=()
def tw16076951282115895957:=()
def tw17964843894397053416:=()
def tw12914622299823867644:=()
def tw7474239133557339972:=()
def tw990408468959969699:=()
def tw9562787298351061040:=()
def tw17886771453502758656:=()
def tw3906923109230117400:=()
def tw13563075486208402290:=()
def tw7187615028175408445:=()
def tw4760233085100721865:=()
def tw6315378730188948186:=()
def tw8959921325472544640:=()
def tw7079310767784881689:=()
def tw2074402877305462374:=()
def tw1084233843586947787:=()
def tw8884773923138204436:=()
def tw17922837486583360220:=()
def tw7557962590675425888:=()
def tw4377820878119947428:=()
def tw374986270210293904:=()
def tw18407603282949047215:=()
def tw5833721177427260325:=()
def tw8007385167867094692:=()
def tw9714161226050915778:=()
def tw3538988222539145122:=()
def tw15042828719578027462:=()
def tw16083029684766043108:=()
def tw11446173890180676810:=()
def tw8037617673629743642:=()
def tw4637508224411320156:=()
def tw12740062943247506377:=()
def tw2445645888626028729:=()
def tw18353039702599610155:=()
def tw11142021042723419517:=()
def tw12663156211057104915:=()
def tw2633325138465014965:=()
def tw4178531967212215135:=()
def tw10105597941928556961:=()
def tw13213088800510533858:=()
def tw14177036256566520876:=()
def tw674240691118224250:=()
def tw2756920723932358255:=()
def tw16850680670878603602:=()
def tw8042580380133879880:=()
def tw6404843926251284382:=()
def tw4262604709600800796:=()
def tw6171027067076670426:=()
def tw17023772512182258121:=()
def tw2162926987618394189:=()
def tw10838440295925272331:=()
def tw13678153605226294499:=()
def tw14628879472154954791:=()
def tw4992251960440789265:=()
def tw2054352181596144556:=()
def tw6989936148369648206:=()
def tw6222739954837557925:=()
def tw951604689981145231:=()
def tw15707795721241748877:=()
def tw7847190476930933250:=()
def tw1543236045570397094:=()
def tw3730161889548385188:=()
def tw9098126347317589757:=()
def tw569828771138040788:=()
def tw11577871209950740637:=()
def tw6789091356928506897:=()
def tw9680662313101021721:=()
def tw14930402329345242780:=()
def tw10431361118668793554:=()
def tw9108280835699292065:=()
def tw897522591318525789:=()
def tw69811982542562730:=()
def tw2373280234262190259:=()
def tw4048335493982522759:=()
def tw15723969205329233729:=()
def tw5994486666990985053:=()
def tw16401747105039768718:=()
def tw11483554076070386004:=()
def tw10033451634492971591:=()
def tw7412675366422200044:=()
def tw7674367167826380320:=()
def tw10529670624883835045:=()
def tw11868090473095354328:=()
def tw16821001021645739630:=()
def tw6220631557039666014:=()
def tw15023722344848598932:=()
def tw5724473741220107805:=()
def tw16723577165599720537:=()
def tw10925757584852256245:=()
def tw16284506564227520346:=()
def tw106782660428997707:=()
def tw3668634049876993412:=()
def tw7922348580467171662:=()
def tw192908573388445545:=()
def tw14744992145330993099:=()
def tw1758219987308117349:=()
def tw10452640717185445809:=()
def tw10369174981809100264:=()
def tw1175839963823788531:=()
def tw14927173247488468107:=()
def tw12693743755037187459:=()
def tw11473627837213578035:=()
def tw14128537132052426200:=()
def tw11118686767228938896:=()
def tw5019591303430475717:=()
def tw3009010299925583068:=()
def tw17571643217486630603:=()
def tw2907574439349093386:=()
def tw14342002659138633766:=()
def tw17513090839135114980:=()
def tw17330069708347939885:=()
def tw8796797801103969295:=()
def tw12296530910918464251:=()
def tw4167058664592540414:=()
def tw12373814500089585922:=()
def tw2345779198915310330:=()
def tw1174608437383161881:=()
def tw10050377990731812916:=()
def tw5218479914979473493:=()
def tw8613898560289005821:=()
def tw9220000319050063758:=()
def tw14912321434857338556:=()
def tw16896537127800591597:=()
def tw17295973205737601814:=()
def tw5503116116924967919:=()
def tw6359650984525772537:=()
def tw8392481128351114507:=()
def tw14002941566468931146:=()
def tw12015801956828300727:=()
def tw8426145886503117309:=()
def tw1395613680180163702:=()
def tw6011429253095663441:=()
def tw17157567038285496727:=()
def tw13092007077742760620:=()
def tw7190972987762424416:=()
def tw2144256431367149969:=()
def tw13944933334655326717:=()
def tw376079340152429089:=()
def tw7625193473154564181:=()
def tw14731685875762141731:=()
def tw11881417736059482428:=()
def tw17035615342707132301:=()
def tw4971621836350363471:=()
def tw10353698036228356913:=()
def tw14127158378467148441:=()
def tw9898144154852860131:=()
def tw3671769202766712912:=()
def tw18185815245825183241:=()
def tw5393611494184054655:=()
def tw9555195563060531631:=()
def tw11356909047651275064:=()
def tw4075582264850115668:=()
def tw9775675372102461987:=()
def tw10229248860314439309:=()
def tw18098161891660052101:=()
def tw14860218689051527675:=()
def tw10558656421443553321:=()
def tw8737459355983929568:=()
def tw3519045312607442975:=()
def tw3161805351821106733:=()
def tw6922833964796398885:=()
def tw13207956543335128927:=()
def tw8439831612419241628:=()
def tw406062271099052606:=()
def tw3983460946394493789:=()
def tw7144827295038345703:=()
def tw2566298491708221004:=()
def tw4824692972871702470:=()
def tw4180286987034780003:=()
def tw9175659390159207580:=()
def tw1169565805041910554:=()
def tw11890093376088274788:=()
def tw16690142373783936855:=()
def tw14047129070681218821:=()
def tw10215014912018807899:=()
def tw11769647680799389025:=()
def tw17700403076141760227:=()
def tw15286965237340220988:=()
def tw6175356731039805061:=()
def tw2463647511485444983:=()
def tw16864632669223008021:=()
def tw1379699861928703985:=()
def tw17399453532930463099:=()
def tw10138670284788385378:=()
def tw10424796482473977161:=()
def tw6548180100106904472:=()
def tw2398430053673572038:=()
def tw6285197999113368855:=()
def tw8688615289455280054:=()
def tw6249654910679622527:=()
def tw15494082130006323217:=()
def tw10949974310526213094:=()
def tw5875536924451462567:=()
def tw7376339485781712268:=()
def tw148180210786167848:=()
def tw13284609271678469769:=()
def tw3857898894430019546:=()
def tw13213479790843444539:=()
def tw4387955282940532:=()
def tw3296869817584158109:=()
def tw9587981467009534863:=()
def tw15268879457189260923:=()
def tw13661049608572601321:=()
def tw2486150287395439686:=()
def tw10351709293779717276:=()
def tw15543551564699280952:=()
def tw2352558270303725870:=()
def tw3969462555540703108:=()
def tw14048365815365236857:=()
def tw11257901642218469836:=()
def tw13624107218588769024:=()
def tw1498639798877761044:=()
def tw6193723354962270709:=()
def tw10242663975822246687:=()
def tw4987495433185832126:=()
def tw3369043890434315803:=()
def tw155877650528248203:=()
def tw863562883812324733:=()
def tw15584044054640675219:=()
def tw16882007889006666548:=()
def tw4095047824756899573:=()
def tw13492831313925280258:=()
def tw3078966819434594716:=()
def tw13593735057979164739:=()
def tw15302842136342765195:=()
def tw7760164492784527613:=()
def tw8123444930843775393:=()
def tw12356073463898164552:=()
def tw1029224401050462378:=()
def tw7187395121403444404:=()
def tw13820024442133785547:=()
def tw3254557916431992768:=()
def tw5425101153388839034:=()
def tw1574249161124002828:=()
def tw9100119363275400748:=()
def tw1810661571689310026:=()
def tw1622891415922853333:=()
def tw1004013815045464879:=()
def tw12215434866161570601:=()
def tw10550258399218627528:=()
def tw7826218798164183867:=()
def tw10240501539830338108:=()
def tw5340015176252098284:=()
def tw18004824819832129005:=()
def tw1557841720065715018:=()
def tw12128527304897862709:=()
def tw10272643036664541600:=()
def tw15044216899069359501:=()
def tw4031478958545557813:=()
def tw11331922583814773571:=()
def tw6056847774513070987:=()
def tw13639198314580181489:=()
def tw9937294353192920573:=()
def tw16262373831201587252:=()
def tw6623803860003708614:=()
def tw16725263649250078290:=()
def tw7313759179172664203:=()
def tw10777258933180177640:=()
def tw10761984096192785338:=()
def tw13542136432634308863:=()
def tw5668168822947016811:=()
def tw18064043470455929627:=()
def tw8547147975721148074:=()
def tw14974814103939047581:=()
def tw13896232230535370671:=()
def tw234867019972454207:=()
def tw5085191721926971307:=()
def tw517968434865082652:=()
def tw2453468229605988634:=()
def tw14341507446365159248:=()
def tw6868334651867315761:=()
def tw2613091938128235210:=()
def tw3890087755290021764:=()
def tw10960940175986866309:=()
def tw12789241618253260619:=()
def tw1343875766594664885:=()
def tw8259893586410494707:=()
def tw9872797030910939572:=()
def tw1225458530737489158:=()
def tw5376526149959608716:=()
def tw3296303633484472086:=()
def tw18055199199083726752:=()
def tw11514599910758046004:=()
def tw10480665274660596484:=()
def tw6534419075050815019:=()
def tw2240763198715777331:=()
def tw10855658091957226495:=()
def tw5422027686848409802:=()
def tw13036923658889687581:=()
def tw11616331642544995292:=()
def tw14199667380132847178:=()
def tw2814616806246835675:=()
def tw11951247028544305429:=()
def tw7766746346259148613:=()
def tw7164249164613025240:=()
def tw17559867027435194368:=()
def tw7811312460855307249:=()
def tw16854875665958415773:=()
def tw16637168601511320075:=()
def tw13045497456249925803:=()
def tw3881607322932485649:=()
def tw9553289589415315694:=()
def tw11141690299888950902:=()
def tw17309311937324613114:=()
def tw8766542740432747192:=()
def tw6011072475290436720:=()
def tw12569443805126418786:=()
def tw8545531665791199567:=()
def tw14137656224474651238:=()
def tw9978449486442713220:=()
def tw4851989146383633873:=()
def tw6331873519256782114:=()
def tw17098584123600817670:=()
def tw16197664596222552455:=()
def tw14267980041826693892:=()
def tw4627202790001980828:=()
def tw18211816355376476209:=()
def tw1465840030547104814:=()
def tw18406881177665760448:=()
def tw3065792242311796824:=()
def tw8403732038423314528:=()
def tw1914033899669452466:=()
def tw4517474457443924981:=()
def tw12424330600358277719:=()
def tw5396986101188881477:=()
def tw6929199191738023810:=()
def tw8348787900902286243:=()
def tw15422844194340424212:=()
def tw2760995335368982182:=()
def tw6825872738330953437:=()
def tw7644357102409471198:=()
def tw10104161435153131447:=()
def tw13472334988980324656:=()
def tw5067536100251204021:=()
def tw7753554641705355622:=()
def tw2658695537270339147:=()
def tw2902875099623093967:=()
def tw11366119250937671169:=()
def tw13519581538801684528:=()
def tw727934295057490169:=()
def tw440181341702687476:=()
def tw1102524257604949478:=()
def tw820118850606553999:=()
def tw17766148182804186372:=()
def tw16562186091628767642:=()
def tw12951696150547717594:=()
def tw8025300739332565529:=()
def tw8358298649528476234:=()
def tw2551770858498836881:=()
def tw7174366202054823357:=()
def tw9503228049011065270:=()
def tw4194870491614682260:=()
def tw15718121771710725649:=()
end PySem.W.Fast
open PySem PySem.W PyProof.Rows
set_option maxRecDepth 100000 in
set_option maxHeartbeats 0 in
theorem PySem.Challenge.cw_linewords_s06_answers_holds : PySem.Challenge.rw_linewords_s06_answers.Holds := by
 w_on; k_headS; (case hw => exact ⟨[.list []],by decide +kernel,by decide +kernel⟩)
 k_fillS
 refine Mc.walk (by decide +kernel) rfl (fun w h Y => PySem.W.kIn_of Y) ?F
 case F =>
  intro w mg fa h KX G hmg
  refine' Mc.all_mk hmg (Mc.maT_mk KX G (L2.int_mk KX G ?_) (L2.int_mk KX G ?_) (L2.int_mk KX G ?_) (L2.int_mk KX G ?_) (L2.int_mk KX G ?_) (L2.int_mk KX G ?_) (L2.int_mk KX G ?_) (L2.int_mk KX G ?_) (L2.int_mk KX G ?_) (L2.int_mk KX G ?_) ?_ ?_ ?_ ?_ ?_ ?_ ?_ ?_ ?_ ?_ ?_ ?_ ?_ ?_ ?_ ?_ ?_ ?_ ?_ ?_ ?_ ?_ ?_) (Mc.insT_mk KX G ?_ ?_ ?_ ?_ ?_ ?_ ?_ ?_ ?_ ?_ ?_ ?_ ?_ ?_ ?_ ?_)
   (Mc.ari_mk (L2.dn_mk KX G ?_ ?_ ?_ ?_ ?_) (L2.dn_mk KX G ?_ ?_ ?_ ?_ ?_) (L2.dn_mk KX G ?_ ?_ ?_ ?_ ?_) (L2.dn_mk KX G ?_ ?_ ?_ ?_ ?_) (L2.dn_mk KX G ?_ ?_ ?_ ?_ ?_) (L2.dn_mk KX G ?_ ?_ ?_ ?_ ?_) (L2.dn_mk KX G ?_ ?_ ?_ ?_ ?_) (PySem.W.mg_none_of KX G ?_) (PySem.W.mg_of KX G ?_) (L2.int_mk KX G ?_) (L2.int_mk KX G ?_) (L2.int_mk KX G ?_) (L2.int_mk KX G ?_) (L2.int_mk KX G ?_) (L2.int_mk KX G ?_) (L2.int_mk KX G ?_) (L2.int_mk KX G ?_) ?_) (Mc.dkT_mk KX G ?_ ?_ ?_ ?_ ?_ ?_ (L2.int_mk KX G ?_) (L2.int_mk KX G ?_) (L2.int_mk KX G ?_) (L2.int_mk KX G ?_) (L2.int_mk KX G ?_) (L2.int_mk KX G ?_) ?_)
   (fun T TI TA => Mc.tab_mk T TI TA
    (L2.dn_mk KX G ?_ ?_ ?_ ?_ ?_) (L2.dn_mk KX G ?_ ?_ ?_ ?_ ?_) (L2.dn_mk KX G ?_ ?_ ?_ ?_ ?_) (L2.dn_mk KX G ?_ ?_ ?_ ?_ ?_) (L2.dn_mk KX G ?_ ?_ ?_ ?_ ?_) (L2.mt_mk ?_ ?_ ?_ ?_ ?_ ?_) ?_ ?_ (L2.dn_mk KX G ?_ ?_ ?_ ?_ ?_) (L2.dn_mk KX G ?_ ?_ ?_ ?_ ?_) (L2.dn_mk KX G ?_ ?_ ?_ ?_ ?_) (L2.dn_mk KX G ?_ ?_ ?_ ?_ ?_) (L2.dn_mk KX G ?_ ?_ ?_ ?_ ?_) (L2.dn_mk KX G ?_ ?_ ?_ ?_ ?_) (L2.dn_mk KX G ?_ ?_ ?_ ?_ ?_) (L2.dn_mk KX G ?_ ?_ ?_ ?_ ?_) (L2.dn_mk KX G ?_ ?_ ?_ ?_ ?_) (L2.dn_mk KX G ?_ ?_ ?_ ?_ ?_) (L2.dn_mk KX G ?_ ?_ ?_ ?_ ?_) (L2.dn_mk KX G ?_ ?_ ?_ ?_ ?_) (L2.dn_mk KX G ?_ ?_ ?_ ?_ ?_) (L2.dn_mk KX G ?_ ?_ ?_ ?_ ?_) (L2.dn_mk KX G ?_ ?_ ?_ ?_ ?_) (L2.dn_mk KX G ?_ ?_ ?_ ?_ ?_) (L2.dn_mk KX G ?_ ?_ ?_ ?_ ?_) (L2.dn_mk KX G ?_ ?_ ?_ ?_ ?_) (L2.dn_mk KX G ?_ ?_ ?_ ?_ ?_) (L2.dn_mk KX G ?_ ?_ ?_ ?_ ?_) (L2.dn_mk KX G ?_ ?_ ?_ ?_ ?_) (L2.dn_mk KX G ?_ ?_ ?_ ?_ ?_) (L2.dn_mk KX G ?_ ?_ ?_ ?_ ?_) (L2.dn_mk KX G ?_ ?_ ?_ ?_ ?_) (L2.dn_mk KX G ?_ ?_ ?_ ?_ ?_) (PySem.W.mg_of KX G ?_) (PySem.W.mg_of KX G ?_) ?_ ?_) (PySem.W.mg_none_of KX G ?_)
   (L2.dn_mk KX G ?_ ?_ ?_ ?_ ?_) (L2.dn_mk KX G ?_ ?_ ?_ ?_ ?_) (L2.dn_mk KX G ?_ ?_ ?_ ?_ ?_) (L2.dn_mk KX G ?_ ?_ ?_ ?_ ?_) (L2.dn_mk KX G ?_ ?_ ?_ ?_ ?_) (L2.dn_mk KX G ?_ ?_ ?_ ?_ ?_) (L2.dn_mk KX G ?_ ?_ ?_ ?_ ?_) (L2.mt_mk ?_ ?_ ?_ ?_ ?_ ?_) ?_ ?_ (L2.mt_mk ?_ ?_ ?_ ?_ ?_ ?_) ?_ ?_ (L2.mt_mk ?_ ?_ ?_ ?_ ?_ ?_) (L2.mt_mk ?_ ?_ ?_ ?_ ?_ ?_) (L2.mt_mk ?_ ?_ ?_ ?_ ?_ ?_) (L2.mt_mk ?_ ?_ ?_ ?_ ?_ ?_) (L2.mt_mk ?_ ?_ ?_ ?_ ?_ ?_) ?_ ?_ (L2.mt_mk ?_ ?_ ?_ ?_ ?_ ?_) (L2.mt_mk ?_ ?_ ?_ ?_ ?_ ?_) (L2.mt_mk ?_ ?_ ?_ ?_ ?_ ?_) (L2.mt_mk ?_ ?_ ?_ ?_ ?_ ?_)
  all_goals try first
    | k_is
    | kernel_rfl
    | (intro _ _ _ _ _ _ us hl; match us,hl with | [_],_ => rfl)
    | (intro _ _ _ _ _ _ us hl; match us,hl with | [_,_],_ => rfl)
    | (intro _ _ _ _ _ _ us hl; match us,hl with | [_,_,_],_ => rfl)
