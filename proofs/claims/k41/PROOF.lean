import PyProof.Rows.All
import Wide.All
import OpenK.AllK
import Wide.FinOn
import Lean
import PyProof.EqAt
import PyProof.EqKinds
import PyProof.TupleCall
import PySem.Challenge.RW_throwgate_k41_whole_most
set_option Elab.async false
set_option linter.all false
set_option maxRecDepth 100000
namespace L2
open PySem PySem.Spec PyProof.Rows
abbrev Key := Sum Int Str
def Ln : Key → Value → Bool
 | .inl k, v => Value.isInt k v
 | .inr x, v => Value.isStrOf x v
def keyH (w : World) : Key → Int
 | .inl k => hashInt k
 | .inr x => hashStr w x
theorem BI : ∀ {k : Key} {v : Value}, Ln k v = true → (∃ i t, k = Sum.inl i ∧ v = Value.int i t) ∨ (∃ x t, k = Sum.inr x ∧ v = Value.str x t)
 | .inl i, v, h => by
  obtain ⟨t, e⟩ := Value.isInt_shape (k := i) (v := v) h
  exact .inl ⟨i, t, rfl, e⟩
 | .inr x, v, h => by
  obtain ⟨t, e⟩ := Value.isStrOf_shape (x := x) (v := v) h
  exact .inr ⟨x, t, rfl, e⟩
theorem RV (i : Int) (t : Tok) : Ln (.inl i) (.int i t) = true := by simp [Ln, Value.isInt]
theorem Ru (x : Str) (t : Tok) : Ln (.inr x) (.str x t) = true := by simp [Ln, Value.isStrOf]
theorem W0 (a b : Int) : decide ((Sum.inl a : Key) = Sum.inl b) = (a == b) := by
 by_cases e : a = b
 ·subst e; simp
 ·have h : ¬ (Sum.inl a : Key) = Sum.inl b := fun q => e (Sum.inl.inj q)
  rw [decide_eq_false h]
  exact (beq_eq_false_iff_ne.mpr e).symm
theorem Xk (a b : Str) : decide ((Sum.inr a : Key) = Sum.inr b) = decide (a = b) := by
 by_cases e : a = b
 ·subst e; simp
 ·have h : ¬ (Sum.inr a : Key) = Sum.inr b := fun q => e (Sum.inr.inj q)
  rw [decide_eq_false h, decide_eq_false e]
theorem WK (a : Int) (b : Str) : decide ((Sum.inl a : Key) = Sum.inr b) = false := decide_eq_false (fun q => nomatch q)
theorem Xe (a : Str) (b : Int) : decide ((Sum.inr a : Key) = Sum.inl b) = false := decide_eq_false (fun q => nomatch q)
def BG (prog : Program) (w : World) : PySem.KeyKind prog w Key where
 is := Ln
 hash := keyH w
 inj := fun v a b ha hb => by
  rcases BI ha with ⟨i, t, rfl, rfl⟩ | ⟨x, t, rfl, rfl⟩
  ·rcases BI hb with ⟨j, u, rfl, e⟩ | ⟨y, u, rfl, e⟩
   ·injection e with e1 _; rw [e1]
   ·exact nomatch e
  ·rcases BI hb with ⟨j, u, rfl, e⟩ | ⟨y, u, rfl, e⟩
   ·exact nomatch e
   ·injection e with e1 _; rw [e1]
 byValue := fun k v h => by
  rcases BI h with ⟨i, t, rfl, rfl⟩ | ⟨x, t, rfl, rfl⟩ <;> rfl
 pyHash := fun hv h => by
  rcases BI hv with ⟨i, t, rfl, rfl⟩ | ⟨x, t, rfl, rfl⟩
  ·exact wpAny_pyHash_int h
  ·exact wpAny_pyHash_str h
 eqBool := fun hu hv h => by
  rcases BI hu with ⟨i, t, rfl, rfl⟩ | ⟨x, t, rfl, rfl⟩
  ·rcases BI hv with ⟨j, u, rfl, rfl⟩ | ⟨y, u, rfl, rfl⟩
   ·rw [W0] at h; exact wpAny_eqBool_int h
   ·rw [WK] at h; exact SeqAt.EqAt.int_str i t y u _ _ _ _ h
  ·rcases BI hv with ⟨j, u, rfl, rfl⟩ | ⟨y, u, rfl, rfl⟩
   ·rw [Xe] at h; exact SeqAt.EqAt.str_int x t j u _ _ _ _ h
   ·rw [Xk] at h; exact wpAny_eqBool_str h
 «strs» := fun k x t v h => by
  rcases BI h with ⟨i, u, rfl, e⟩ | ⟨y, u, rfl, e⟩
  ·exact nomatch e
  ·injection e with e1 _
   subst e1
   cases v <;> rfl
theorem Om (prog : Program) (w : World) (i : Int) (t : Tok) : (BG prog w).is (.inl i) (.int i t) = true := RV i t
theorem Pc (prog : Program) (w : World) (x : Str) (t : Tok) : (BG prog w).is (.inr x) (.str x t) = true := Ru x t
end L2
namespace L2
open PySem PySem.Spec PyProof.Rows
inductive V where
 | non | bl (b : Bool) | int (i : Int) | str (x : Str) | byt (b : Array UInt8) | flt (b : UInt64) | ref (a : Addr) | ty (n : String)
 deriving DecidableEq
def RelV : V → Value → Prop
 | .non, u => u = Value.none
 | .bl b, u => u = Value.bool b
 | .int i, u => ∃ t, u = Value.int i t
 | .str x, u => ∃ t, u = Value.str x t
 | .byt b, u => ∃ t, u = Value.bytes b t
 | .flt b, u => ∃ t, u = Value.float b t
 | .ref a, u => u = Value.ref a
 | .ty n, u => u = Value.type n
abbrev Au : List V → List Value → Prop := Paired RelV
theorem Au.length {xs : List V} {us : List Value} (r : Au xs us) : xs.length = us.length := Paired.length r
theorem Au.get : ∀ {xs : List V} {us : List Value} {i : Nat} {x : V}, Au xs us → xs[i]? = some x → ∃ u, us[i]? = some u ∧ RelV x u
 | _, _, _, _, .nil, e => by simp at e
 | _, _, 0, _, .cons r _, e => by simp at e; subst e; exact ⟨_, rfl, r⟩
 | _, _, i + 1, x, .cons _ t, e => by
  obtain ⟨u, h1, h2⟩ := Au.get (i := i) (x := x) t (by simpa using e)
  exact ⟨u, by simpa using h1, h2⟩
theorem Au.set {x : V} {u : Value} (r : RelV x u) : ∀ {xs : List V} {us : List Value} (i : Nat), Au xs us → Au (xs.set i x) (us.set i u)
 | _, _, _, .nil => .nil
 | _, _, 0, .cons _ t => .cons r t
 | _, _, i + 1, .cons q t => .cons q (Au.set r i t)
theorem Au.append : ∀ {xs ys : List V} {us ws : List Value}, Au xs us → Au ys ws → Au (xs ++ ys) (us ++ ws)
 | _, _, _, _, .nil, s => s
 | _, _, _, _, .cons r t, s => .cons r (Au.append t s)
theorem Au.take : ∀ {xs : List V} {us : List Value} (n : Nat), Au xs us → Au (xs.take n) (us.take n)
 | _, _, 0, _ => .nil
 | _, _, _ + 1, .nil => .nil
 | _, _, n + 1, .cons r t => .cons r (Au.take n t)
theorem Au.drop : ∀ {xs : List V} {us : List Value} (n : Nat), Au xs us → Au (xs.drop n) (us.drop n)
 | _, _, 0, r => r
 | _, _, _ + 1, .nil => .nil
 | _, _, n + 1, .cons _ t => Au.drop n t
def Fk : Option V → Option Value → Prop
 | some v, some u => RelV v u
 | none, none => True
 | _, _ => False
def KV {κ : Type} : List (κ × V) → List (κ × Value) → Prop := Paired fun (p : κ × V) (q : κ × Value) => p.1 = q.1 ∧ RelV p.2 q.2
def kV : Key → V
 | .inl i => .int i
 | .inr x => .str x
inductive HO where
 | lst (xs : List V)
 | tup (xs : List V)
 | dK (kvs : List (Key × V)) | dT (kvs : List (List Key × V))
 | set (S : Int → Bool) (n : Nat)
 | ins (C dx : Addr) (fs : List (Str × V))
 | own (x : Addr)
 | xd (fs : List (Str × V))
 | met (f x : Addr)
 | rng (lo hi : Int)
 | frz (o : Obj) (u : HO)
 | tbl (ps : Array Value)
 | ext (φ : Heap → Prop)
abbrev Hp := Addr → Option HO
def upd (H : Hp) (a : Addr) (o : HO) : Hp := fun b => if b = a then some o else H b
theorem AO {H : Hp} {a : Addr} {o : HO} : upd H a o a = some o := by unfold upd; rw [if_pos rfl]
theorem AK {H : Hp} {a b : Addr} {o : HO} (h : b ≠ a) : upd H a o b = H b := by unfold upd; rw [if_neg h]
theorem Bv {H : Hp} {a b : Addr} {o u : HO} (h : H a = some o) (h' : H b = some u) (d : o ≠ u) : a ≠ b := by
 intro e; subst e; rw [h] at h'; exact d (Option.some.inj h')
theorem Ap {H : Hp} {a b : Addr} {o : HO} (h : H a = some o) (h' : H b = none) : a ≠ b := by
 intro e; subst e; rw [h] at h'; cases h'
section
variable (P : Program) (w : World)
def BZ (H : Hp) (h : Heap) (a : Addr) : HO → Prop
 | .lst xs => xs.length ≤ sizeLine ∧ ∃ (its : List Value) (n : Nat), Au xs its ∧ h.get? a = some { cls := .type "list", data := .seq its.toArray n }
 | .tup xs => xs.length ≤ sizeLine ∧ ∃ its : List Value, Au xs its ∧ IsTup h a its.toArray
 | .dK kvs => kvs.length ≤ sizeLine ∧ (a == sysModules) = false ∧ ∃ vs, KV kvs vs ∧ h.DictOf (BG P w) a vs
 | .dT kvs => kvs.length ≤ sizeLine ∧ (a == sysModules) = false ∧ ∃ xs : List (List Key × Addr × Value),
   Paired (fun (p : List Key × V) (q : List Key × Addr × Value) => p.1 = q.1 ∧ H q.2.1 = some (.tup (p.1.map kV)) ∧ RelV p.2 q.2.2) kvs xs ∧
   ∃ o es ep, h.get? a = some o ∧ o.ExactDict ∧ o.data = .dict es ep ∧ es.toList = xs.map (entryOfKey (tupleKind (BG P w))) ∧ (xs.map (·.1)).Nodup
 | .set S n => h.SetOf (intKind P w) a S n
 | .ins C dx fs => H dx = some (.own a) ∧ fs.length ≤ 1000 ∧ dx ≠ a ∧ h.get? a = some (PySem.W.instObj C dx) ∧
   ∃ mA, h.Ns1 dx mA ∧ (∀ f, Fk (fs.lookup f) (mA f)) ∧ PySem.Within mA (fs.map (·.1))
 | .own _ => ∃ o, h.get? a = some o
 | .xd fs => ∃ mA, h.Ns1 a mA ∧ ∀ f, Fk (fs.lookup f) (mA f)
 | .rng lo hi => ∃ t u v, h.get? a = some { cls := .type "range", data := .fields #[.int lo t, .int hi u, .int 1 v] }
 | .frz o u => h.get? a = some o ∧ BZ H h a u
 | .tbl ps => h.get? a = some { cls := .none, data := .fields ps }
 | .met f x => h.get? a = some (PySem.W.methodObj (.ref f) (.ref x))
 | .ext φ => φ h ∧ (∃ o, h.get? a = some o) ∧ ∀ h1 h2 : Heap, φ h1 → (∀ o, h1.get? a = some o → h2.get? a = some o) → φ h2
def HOk (H : Hp) (h : Heap) : Prop := ∀ a o, H a = some o → BZ P w H h a o
end
section
variable {P : Program} {w : World} {H H' : Hp} {h h' : Heap} {a : Addr} {o : HO}
theorem BZ.lt (x : BZ P w H h a o) : a < h.objs.size := by
 cases o with
 | lst xs => obtain ⟨_, _, _, _, e⟩ := x; exact Heap.lt_size e
 | tup xs => obtain ⟨_, _, _, p⟩ := x; exact p.lt
 | dK kvs => obtain ⟨_, _, _, _, o, _, _, e, _⟩ := x; exact Heap.lt_size e
 | dT kvs => obtain ⟨_, _, _, _, o, _, _, e, _⟩ := x; exact Heap.lt_size e
 | set S n => obtain ⟨o, _, _, _, e, _⟩ := x; exact Heap.lt_size e
 | ins C dx fs => obtain ⟨_, _, _, e, _⟩ := x; exact Heap.lt_size e
 | own y => obtain ⟨_, e⟩ := x; exact Heap.lt_size e
 | xd fs => obtain ⟨_, ⟨_, _, _, e, _⟩, _⟩ := x; exact Heap.lt_size e
 | rng lo hi => obtain ⟨_, _, _, e⟩ := x; exact Heap.lt_size e
 | frz ob u => obtain ⟨e, _⟩ := x; exact Heap.lt_size e
 | tbl ps => exact Heap.lt_size (show h.get? a = some _ from x)
 | met f y => exact Heap.lt_size (show h.get? a = some _ from x)
 | ext φ => obtain ⟨_, ⟨_, e⟩, _⟩ := x; exact Heap.lt_size e
theorem Paired.mapP {α β : Type} {F G : α → β → Prop} : ∀ {l₁ : List α} {l₂ : List β}, Paired F l₁ l₂ → (∀ a b, F a b → G a b) → Paired G l₁ l₂
 | _, _, .nil, _ => .nil
 | _, _, .cons r t, f => .cons (f _ _ r) (Paired.mapP t f)
theorem BZ.stay (x : BZ P w H h a o) (k : ∀ b u, (b = a ∨ H b = some (.own a)) → h.get? b = some u → h'.get? b = some u)
  (ho : ∀ b, H b = some (.own a) → H' b = some (.own a)) (ht : ∀ b xs, H b = some (.tup xs) → H' b = some (.tup xs)) : BZ P w H' h' a o := by
 induction o with
 | lst xs => obtain ⟨z, its, n, r, e⟩ := x; exact ⟨z, its, n, r, k _ _ (.inl rfl) e⟩
 | tup xs => obtain ⟨z, its, r, ob, e, c⟩ := x; exact ⟨z, its, r, ob, k _ _ (.inl rfl) e, c⟩
 | dK kvs => obtain ⟨z, y, vs, r, ob, es, ep, e, c⟩ := x; exact ⟨z, y, vs, r, ob, es, ep, k _ _ (.inl rfl) e, c⟩
 | dT kvs =>
  obtain ⟨z, y, xs, r, ob, es, ep, e, c⟩ := x
  exact ⟨z, y, xs, Paired.mapP r fun p q z => ⟨z.1, ht _ _ z.2.1, z.2.2⟩, ob, es, ep, k _ _ (.inl rfl) e, c⟩
 | set S n => obtain ⟨ob, es, ep, t, e, c⟩ := x; exact ⟨ob, es, ep, t, k _ _ (.inl rfl) e, c⟩
 | ins C dx fs =>
  obtain ⟨d, z, ne, e, mA, ⟨od, es, ep, e2, c⟩, r⟩ := x
  exact ⟨ho _ d, z, ne, k _ _ (.inl rfl) e, mA, ⟨od, es, ep, k _ _ (.inr d) e2, c⟩, r⟩
 | own y => obtain ⟨ob, e⟩ := x; exact ⟨ob, k _ _ (.inl rfl) e⟩
 | xd fs => obtain ⟨mA, ⟨od, es, ep, e, c⟩, r⟩ := x; exact ⟨mA, ⟨od, es, ep, k _ _ (.inl rfl) e, c⟩, r⟩
 | rng lo hi => obtain ⟨t, u, v, e⟩ := x; exact ⟨t, u, v, k _ _ (.inl rfl) e⟩
 | frz ob u ih => obtain ⟨e, q⟩ := x; exact ⟨k _ _ (.inl rfl) e, ih q⟩
 | tbl ps =>
  have e : h.get? a = some { cls := .none, data := .fields ps } := x
  show h'.get? a = some { cls := .none, data := .fields ps }
  exact k a _ (.inl rfl) e
 | met f y =>
  have e : h.get? a = some (PySem.W.methodObj (.ref f) (.ref y)) := x
  show h'.get? a = some (PySem.W.methodObj (.ref f) (.ref y))
  exact k a _ (.inl rfl) e
 | ext φ => obtain ⟨p, ⟨o, e⟩, st⟩ := x; exact ⟨st _ _ p fun o q => k _ _ (.inl rfl) q, ⟨o, k _ _ (.inl rfl) e⟩, st⟩
theorem HOk.lt (x : HOk P w H h) (e : H a = some o) : a < h.objs.size := (x a o e).lt
theorem HOk.fresh (x : HOk P w H h) (e : h.objs.size ≤ a) : H a = none := by
 cases q : H a with
 | none => rfl
 | some u => exact absurd (Nat.lt_of_lt_of_le (x.lt q) e) (Nat.lt_irrefl _)
theorem HOk.kept (x : HOk P w H h) (k : ∀ b u, h.get? b = some u → h'.get? b = some u) : HOk P w H h' := fun a o e =>
 (x a o e).stay (fun b u _ q => k b u q) (fun _ q => q) fun _ _ q => q
theorem HOk.laid (x : HOk P w H h) (k : ∀ b u, h.get? b = some u → h'.get? b = some u) (hp : h.objs.size ≤ a) (new : BZ P w (upd H a o) h' a o) : HOk P w (upd H a o) h' := fun b u e => by
 have hn := x.fresh hp
 by_cases hb : b = a
 ·subst hb; rw [AO] at e; cases e; exact new
 ·rw [AK hb] at e
  exact (x b u e).stay (fun c v _ q => k c v q) (fun c q => by rw [AK (Ap q hn)]; exact q) fun c xs q => by rw [AK (Ap q hn)]; exact q
end
def Rd (H : Hp) (a : Addr) (u : HO) : Prop := H a = some u ∨ ∃ o, H a = some (.frz o u)
theorem Rd.ok {P : Program} {w : World} {H : Hp} {h : Heap} {a : Addr} {u : HO} (r : Rd H a u) (x : HOk P w H h) : BZ P w H h a u := by
 rcases r with r | ⟨o, r⟩
 ·exact x a u r
 ·obtain ⟨_, q⟩ := x a _ r
  exact q
def Mut : Option HO → Prop
 | some (.lst _) => True
 | some (.dK _) => True
 | some (.dT _) => True
 | some (.set _ _) => True
 | some (.ins _ _ _) => True
 | some (.ext _) => True
 | _ => False
section
variable {P : Program} {w : World} {H : Hp} {h h' : Heap} {x e : Addr} {o' : HO}
theorem HOk.write (ok : HOk P w H h) (mu : Mut (H x)) (he : e = x ∨ H e = some (.own x)) (k : ∀ b u, b ≠ e → h.get? b = some u → h'.get? b = some u) (heo : ∃ u, h'.get? e = some u)
  (new : BZ P w (upd H x o') h' x o') : HOk P w (upd H x o') h' := fun b u q => by
 have nown : ∀ c y, H c = some (.own y) → c ≠ x := fun c y r z => by subst z; rw [r] at mu; exact mu
 have ntup : ∀ c xs, H c = some (.tup xs) → c ≠ x := fun c xs r z => by subst z; rw [r] at mu; exact mu
 by_cases hb : b = x
 ·subst hb; rw [AO] at q; cases q; exact new
 ·rw [AK hb] at q
  by_cases hbe : b = e
  ·have q' : H b = some (.own x) := by
    rcases he with z | z
    ·exact absurd (hbe.trans z) hb
    ·rw [hbe]; exact z
   rw [q] at q'; cases q'
   obtain ⟨v, hv⟩ := heo
   exact ⟨v, by rw [hbe]; exact hv⟩
  ·refine (ok b u q).stay (fun c v hc r => k c v ?_ r) (fun c r => by rw [AK (nown c b r)]; exact r) fun c xs r => by rw [AK (ntup c xs r)]; exact r
   rcases hc with rfl | hc
   ·exact hbe
   ·rintro rfl
    rcases he with z | z
    ·exact nown c b hc z
    ·rw [hc] at z; cases z; exact hb rfl
end
structure Un (fs ex : List Addr) (H H' : Hp) (h h' : Heap) : Prop where
 keep : ∀ b o, h.get? b = some o → H b = none → b ∉ fs → b ∉ ex → h'.get? b = some o
 slot : ∀ b o, h.get? b = some o → H b = none → b ∈ fs → b ∉ ex → ∃ sl, h'.get? b = some { o with slots := sl }
 free : ∀ b o, h.get? b = some o → H b = none → b ∉ ex → H' b = none
 there : ∀ b o, h.get? b = some o → b ∉ ex → ∃ o', h'.get? b = some o'
 tups : ∀ b xs, H b = some (.tup xs) → H' b = some (.tup xs)
 frzs : ∀ b o u, H b = some (.frz o u) → H' b = some (.frz o u)
 tbls : ∀ b ps, H b = some (.tbl ps) → ∃ more, H' b = some (.tbl (ps ++ more))
section
variable {fs fs' ex ex' : List Addr} {H H1 H2 : Hp} {h h1 h2 h' : Heap} {a x e : Addr} {o : HO}
theorem Un.any (u : Un fs ex H H1 h h1) {b : Addr} {ob : Obj} (q : h.get? b = some ob) (n : H b = none) (hx : b ∉ ex) : ∃ sl, h1.get? b = some { ob with slots := sl } := by
 by_cases hb : b ∈ fs
 ·exact u.slot b ob q n hb hx
 ·exact ⟨ob.slots, u.keep b ob q n hb hx⟩
theorem Un.kept (k : ∀ b u, h.get? b = some u → h'.get? b = some u) : Un fs ex H H h h' :=
 ⟨fun b ob q _ _ _ => k b ob q, fun b ob q _ _ _ => ⟨ob.slots, k b ob q⟩, fun _ _ _ n _ => n, fun b ob q _ => ⟨ob, k b ob q⟩, fun _ _ q => q, fun _ _ _ q => q, fun _ ps q => ⟨#[], by rw [q]; simp⟩⟩
theorem Un.refl : Un fs ex H H h h := Un.kept fun _ _ q => q
theorem Un.laid (k : ∀ b u, h.get? b = some u → h'.get? b = some u) (hp : h.objs.size ≤ a) (hn : H a = none) : Un fs ex H (upd H a o) h h' where
 keep := fun b u q _ _ _ => k b u q
 slot := fun b u q _ _ _ => ⟨u.slots, k b u q⟩
 free := fun b u q n _ => by rw [AK (Nat.ne_of_lt (Nat.lt_of_lt_of_le (Heap.lt_size q) hp))]; exact n
 there := fun b u q _ => ⟨u, k b u q⟩
 tups := fun b xs q => by rw [AK (Ap q hn)]; exact q
 frzs := fun b u xs q => by rw [AK (Ap q hn)]; exact q
 tbls := fun b ps q => ⟨#[], by rw [AK (Ap q hn), q]; simp⟩
theorem Un.write (mu : Mut (H x)) (he : e = x ∨ H e = some (.own x)) (k : ∀ b u, b ≠ e → h.get? b = some u → h'.get? b = some u) (heo : ∃ u, h'.get? e = some u) : Un fs ex H (upd H x o) h h' := by
 have hx : ∀ b, H b = none → b ≠ x := fun b n z => by subst z; rw [n] at mu; exact mu
 have hb : ∀ b, H b = none → b ≠ e := fun b n z => by
  subst z
  rcases he with r | r
  ·exact hx b n r
  ·rw [n] at r; cases r
 have hm : ∀ b u, H b = some u → ¬ Mut (some u) → b ≠ x := fun b u q nm z => by subst z; rw [q] at mu; exact nm mu
 refine ⟨fun b u q n _ _ => k b u (hb b n) q, fun b u q n _ _ => ⟨u.slots, k b u (hb b n) q⟩, fun b u q n _ => by rw [AK (hx b n)]; exact n, fun b u q _ => ?_,
  fun b xs q => by rw [AK (hm b _ q fun z => z)]; exact q, fun b u xs q => by rw [AK (hm b _ q fun z => z)]; exact q, fun b ps q => ⟨#[], by rw [AK (hm b _ q fun z => z), q]; simp⟩⟩
 by_cases hbe : b = e
 ·subst hbe; exact heo
 ·exact ⟨u, k b u hbe q⟩
end
def trk (h : Heap) (H : Hp) : List Addr := (List.range h.objs.size).filter fun a => (H a).isSome
def ON (h : Heap) (H : Hp) : Heap := PySem.W.hideAll h (trk h H)
theorem Rf (h : Heap) (H : Hp) : (ON h H).objs.size = h.objs.size := PySem.W.hideAll_size _ _
theorem S3 {h : Heap} {H : Hp} {b : Addr} {o : Obj} (e : h.get? b = some o) (n : H b = none) : (ON h H).get? b = some o :=
 PySem.W.hideAll_get _ e fun hm => by
  have q : (H b).isSome = true := (List.mem_filter.mp hm).2
  rw [n] at q; simp at q
theorem UM {h : Heap} {H : Hp} {b : Addr} {o : Obj} (e : (ON h H).get? b = some o) : h.get? b = some o ∧ H b = none := by
 have e' : h.get? b = some o := PySem.W.of_hideAll (trk h H) e
 refine ⟨e', ?_⟩
 cases q : H b with
 | none => rfl
 | some x =>
  have hm : b ∈ trk h H := List.mem_filter.mpr ⟨List.mem_range.mpr (Heap.lt_size e'), by simp [q]⟩
  have z : (ON h H).get? b = none := PySem.W.hideAll_none (trk h H) hm
  rw [z] at e; cases e
end L2
namespace L2
open PySem PySem.Spec PyProof.Rows
structure Mod (K : PySem.W.Frag) (mg : Str → Option Value) (base : Heap) : Prop where
 kin : K.In base
 glob : base.Ns mainGlobals mg
 blt : ∃ mb, base.Ns builtinsNs mb ∧ ∀ x : Str, x ≠ "__name__" → mb x = bootBuiltins x
 nolimit : base.NoLimit
structure Cx where
 prog : Program
 w : World
 K : PySem.W.Frag
 mg : Str → Option Value
 base : Heap
 A : Around
 N : List Str
 s₀ : Shared
 H₀ : Hp
 env : Env
 outer : List Env
 stack : List Env
 ex : List Addr
 fn : Str → Bool
 calm : Bool
 pn : List (Addr × Obj)
 xe : Value → Shared → Prop
def frs (l : List Env) : List Addr := l.filterMap (·.frame)
abbrev Cx.fs (X : Cx) : List Addr := frs X.outer
def Vis (sc : Scope) (x : Str) : Prop := sc.names.lookup x = some .local ∨ sc.names.lookup x = some .cell ∨ sc.names.lookup x = some .free
def Loc (sc : Scope) (x : Str) : Prop := sc.names.lookup x = some .local ∨ sc.names.lookup x = some .cell
def Look (env : Env) (h : Heap) (m : Str → Option Value) (x : Str) (u : Value) : Prop :=
 (env.kindOf x = some .local ∧ m x = some u) ∨ ((env.kindOf x = some .cell ∨ env.kindOf x = some .free) ∧ ∃ c, env.cells.lookup x = some c ∧ h.IsCell c (some u))
structure Cx.Ok (X : Cx) : Prop where
 mod : Mod X.K X.mg X.base
 kind : X.env.scope.kind = .function
 glob : X.env.globals = mainGlobals
 blt : X.env.builtins = builtinsNs
 above : X.s₀.heap.objs.size ≤ X.env.locals
 inj : ∀ x y c, X.env.cells.lookup x = some c → X.env.cells.lookup y = some c → x = y
 has : ∀ x, (X.env.kindOf x = some .cell ∨ X.env.kindOf x = some .free) → ∃ c, X.env.cells.lookup x = some c
 cab : ∀ x c, X.fn x = true → X.env.cells.lookup x = some c → X.s₀.heap.objs.size ≤ c
 hd : X.calm = true → X.A.handled = none
 frames : X.A.frames = some X.stack
 stk : X.stack = X.outer ∨ (X.stack = X.env :: X.outer ∧ X.env.frame = some X.env.locals)
 exf : ∀ b ∈ X.ex, b ≠ X.env.locals ∧ ∀ x c, X.env.cells.lookup x = some c → c ≠ b
 bs : ∀ b o, X.base.get? b = some o → X.s₀.heap.get? b = some o ∧ X.H₀ b = none
 bsz : X.base.objs.size ≤ X.s₀.heap.objs.size
 noex : ∀ b o, X.base.get? b = some o → b ∉ X.ex
 exfs : ∀ b ∈ X.ex, b ∉ X.fs
 funs : X.s₀.heap.FunFrames X.base X.outer
 frf : ∀ b ∈ X.fs, X.H₀ b = none
structure Inv (X : Cx) (pins : List (Addr × Obj)) (σ : List (Option V)) (H : Hp) (s : Shared) : Prop where
 ok : X.Ok
 os : s.os = X.s₀.os
 bare : AllBare s.gens
 base : Un X.fs X.ex X.H₀ H X.s₀.heap s.heap
 loc : ∃ m, s.heap.Ns X.env.locals m ∧ ∀ (i : Nat) (x : Str) (v : V), X.N[i]? = some x → σ[i]? = some (some v) → Vis X.env.scope x → ∃ u, RelV v u ∧ Look X.env s.heap m x u
 cell : ∀ x c, X.env.cells.lookup x = some c → ∃ v, s.heap.IsCell c v
 free : H X.env.locals = none
 freeC : ∀ x c, X.env.cells.lookup x = some c → H c = none
 pin : ∀ p ∈ X.pn ++ pins, s.heap.get? p.1 = some p.2 ∧ H p.1 = none ∧ p.1 ≠ X.env.locals ∧ p.1 ∉ X.fs ∧ ∀ v, p.2.data ≠ .cell v
 hok : HOk X.prog X.w H s.heap
 len : σ.length = X.N.length
section
variable {X : Cx} {pins : List (Addr × Obj)} {σ : List (Option V)} {H H' : Hp} {s : Shared} {h' : Heap}
theorem Cx.Ok.nofr (ok : X.Ok) {b : Addr} {o : Obj} (e : X.base.get? b = some o) : b ∉ X.fs := fun hb => by
 have := (ok.funs.mem hb).1
 rw [e] at this; cases this
theorem Inv.bs (I : Inv X pins σ H s) : ∀ b o, X.base.get? b = some o → s.heap.get? b = some o ∧ H b = none := fun b o e =>
 ⟨I.base.keep b o (I.ok.bs b o e).1 (I.ok.bs b o e).2 (I.ok.nofr e) (I.ok.noex b o e), I.base.free b o (I.ok.bs b o e).1 (I.ok.bs b o e).2 (I.ok.noex b o e)⟩
theorem Inv.bk (I : Inv X pins σ H s) : ∀ b o, X.base.get? b = some o → s.heap.get? b = some o := fun b o e => (I.bs b o e).1
theorem Inv.mod (I : Inv X pins σ H s) : Mod X.K X.mg X.base := I.ok.mod
theorem Inv.kIn (I : Inv X pins σ H s) : X.K.In s.heap := I.ok.mod.kin.keeps I.bk
theorem Inv.lt (I : Inv X pins σ H s) : X.env.locals < s.heap.objs.size := let ⟨_, hn, _⟩ := I.loc; hn.lt
theorem Inv.sz (I : Inv X pins σ H s) : X.s₀.heap.objs.size ≤ s.heap.objs.size := Nat.le_trans I.ok.above (Nat.le_of_lt I.lt)
theorem Inv.nofs (I : Inv X pins σ H s) {a : Addr} (h : s.heap.objs.size ≤ a) : a ∉ X.fs := fun hb => by
 obtain ⟨_, o, ho, _⟩ := I.ok.funs.mem hb
 exact absurd (Nat.lt_of_lt_of_le (Heap.lt_size ho) (Nat.le_trans I.sz h)) (Nat.lt_irrefl _)
theorem Inv.cne (I : Inv X pins σ H s) : ∀ x c, X.env.cells.lookup x = some c → c ≠ X.env.locals := fun x c e z => by
 obtain ⟨v, o, ho, hd⟩ := I.cell x c e
 obtain ⟨m, ⟨o', es, ep, ho', hd', _⟩, _⟩ := I.loc
 rw [z, ho'] at ho; cases ho; rw [hd'] at hd; cases hd
theorem Inv.funs (I : Inv X pins σ H s) : s.heap.FunFrames X.base X.outer := by
 have all : ∀ (l : List Env), (∀ b ∈ frs l, b ∈ X.fs) → X.s₀.heap.FunFrames X.base l → s.heap.FunFrames X.base l := by
  intro l
  induction l with
  | nil => intro _ _; trivial
  | cons env r ih =>
   intro hs hl
   obtain ⟨hk, ⟨L, o, hf, hn, ho, hd⟩, hr⟩ := hl
   have hL : L ∈ X.fs := hs L (by unfold frs; rw [List.filterMap_cons, hf]; exact List.mem_cons_self)
   obtain ⟨sl, e⟩ := I.base.slot L o ho (I.ok.frf L hL) hL fun z => I.ok.exfs L z hL
   exact ⟨hk, ⟨L, _, hf, hn, e, hd⟩, ih (fun b hb => hs b (by unfold frs; rw [List.filterMap_cons, hf]; exact List.mem_cons_of_mem _ hb)) hr⟩
 exact all X.outer (fun _ hb => hb) I.ok.funs
theorem Inv.stack (I : Inv X pins σ H s) : s.heap.FunFrames X.base X.stack := by
 rcases I.ok.stk with e | ⟨e, hf⟩
 ·rw [e]; exact I.funs
 ·rw [e]
  obtain ⟨m, hn, _⟩ := I.loc
  refine .cons (by rw [I.ok.kind]; decide) hf hn ?_ I.funs
  exact Heap.get?_none_of_le (Nat.le_trans I.ok.bsz I.ok.above)
theorem Inv.stkSub (I : Inv X pins σ H s) : ∀ b ∈ frs X.stack, b ∈ X.env.locals :: X.fs := fun b hb => by
 rcases I.ok.stk with e | ⟨e, hf⟩
 ·rw [e] at hb; exact List.mem_cons_of_mem _ hb
 ·rw [e] at hb
  unfold frs at hb
  rw [List.filterMap_cons, hf] at hb
  exact hb
theorem Inv.stkFree (I : Inv X pins σ H s) : ∀ b ∈ frs X.stack, H b = none := fun b hb => by
 rcases List.mem_cons.mp (I.stkSub b hb) with e | hb
 ·rw [e]; exact I.free
 ·obtain ⟨_, o, ho, _⟩ := I.ok.funs.mem hb
  exact I.base.free b o ho (I.ok.frf b hb) fun z => I.ok.exfs b z hb
theorem Inv.step {g' : Array GenState} {t' : Nat} {d' : Drawn} {ch : List Addr} (I : Inv X pins σ H s)
  (hch : ∀ b ∈ ch, (b ∈ X.ex ∨ X.s₀.heap.objs.size ≤ b) ∧ b ≠ X.env.locals ∧ (∀ x c, X.env.cells.lookup x = some c → c ≠ b) ∧ ∀ p ∈ X.pn ++ pins, p.1 ≠ b)
  (keep : ∀ b o, b ≠ X.env.locals → b ∉ X.fs → b ∉ ch → s.heap.get? b = some o → H b = none → h'.get? b = some o)
  (slot : ∀ b o, b ≠ X.env.locals → b ∈ X.fs → b ∉ ch → s.heap.get? b = some o → H b = none → ∃ sl, h'.get? b = some { o with slots := sl }) (free : ∀ b o, b ∉ ch → s.heap.get? b = some o → H b = none → H' b = none)
  (there : ∀ b o, b ∉ ch → s.heap.get? b = some o → ∃ o', h'.get? b = some o')
  (tups : ∀ b xs, H b = some (.tup xs) → H' b = some (.tup xs)) (frzs : ∀ b o u, H b = some (.frz o u) → H' b = some (.frz o u)) (tbls : ∀ b ps, H b = some (.tbl ps) → ∃ more, H' b = some (.tbl (ps ++ more)))
  (ns : ∀ m, s.heap.Ns X.env.locals m → h'.Ns X.env.locals m) (hok : HOk X.prog X.w H' h') (hg : AllBare g') :
  Inv X pins σ H' { s with heap := h', gens := g', drawn := d', toks := t' } := by
 have neL : ∀ b o, X.s₀.heap.get? b = some o → b ≠ X.env.locals := fun b o e => Nat.ne_of_lt (Nat.lt_of_lt_of_le (Heap.lt_size e) I.ok.above)
 have neC : ∀ b o, X.s₀.heap.get? b = some o → b ∉ X.ex → b ∉ ch := fun b o e hx hb => by
  rcases (hch b hb).1 with z | z
  ·exact hx z
  ·exact absurd (Nat.lt_of_lt_of_le (Heap.lt_size e) z) (Nat.lt_irrefl _)
 have cellK : ∀ x c, X.env.cells.lookup x = some c → ∀ v, s.heap.IsCell c v → h'.IsCell c v := fun x c e v ⟨o, ho, hd⟩ => by
  have nch : c ∉ ch := fun z => (hch c z).2.2.1 x c e rfl
  by_cases hc : c ∈ X.fs
  ·obtain ⟨sl, q⟩ := slot c o (I.cne x c e) hc nch ho (I.freeC x c e)
   exact ⟨_, q, hd⟩
  ·exact ⟨o, keep c o (I.cne x c e) hc nch ho (I.freeC x c e), hd⟩
 refine ⟨I.ok, I.os, hg, ⟨fun b o e n hb hx => ?_, fun b o e n hb hx => ?_, fun b o e n hx => ?_, fun b o e hx => ?_, fun b xs e => tups b xs (I.base.tups b xs e), fun b o xs e => frzs b o xs (I.base.frzs b o xs e), fun b ps e => ?_⟩, ?_, fun x c e => ?_, ?_, fun x c e => ?_, fun p hp => ?_, hok, I.len⟩
 ·exact keep b o (neL b o e) hb (neC b o e hx) (I.base.keep b o e n hb hx) (I.base.free b o e n hx)
 ·obtain ⟨sl, e1⟩ := I.base.slot b o e n hb hx
  obtain ⟨sl', e2⟩ := slot b _ (neL b o e) hb (neC b o e hx) e1 (I.base.free b o e n hx)
  exact ⟨sl', e2⟩
 ·obtain ⟨o', e1⟩ := I.base.there b o e hx
  exact free b o' (neC b o e hx) e1 (I.base.free b o e n hx)
 ·obtain ⟨o', e1⟩ := I.base.there b o e hx
  exact there b o' (neC b o e hx) e1
 ·obtain ⟨m1, e1⟩ := I.base.tbls b ps e
  obtain ⟨m2, e2⟩ := tbls b _ e1
  exact ⟨m1 ++ m2, by rw [e2, Array.append_assoc]⟩
 ·obtain ⟨m, hn, hl⟩ := I.loc
  refine ⟨m, ns m hn, fun i x v e1 e2 e3 => ?_⟩
  obtain ⟨u, r, l⟩ := hl i x v e1 e2 e3
  refine ⟨u, r, ?_⟩
  rcases l with l | ⟨k, c, e, z⟩
  ·exact .inl l
  ·exact .inr ⟨k, c, e, cellK x c e _ z⟩
 ·obtain ⟨v, z⟩ := I.cell x c e
  exact ⟨v, cellK x c e v z⟩
 ·obtain ⟨m, ⟨o, _, _, ho, _⟩, _⟩ := I.loc
  exact free _ o (fun z => (hch _ z).2.1 rfl) ho I.free
 ·obtain ⟨v, o, ho, hd⟩ := I.cell x c e
  exact free c o (fun z => (hch c z).2.2.1 x c e rfl) ho (I.freeC x c e)
 ·obtain ⟨e, n, ne, nf, d⟩ := I.pin p hp
  have nch : p.1 ∉ ch := fun z => (hch p.1 z).2.2.2 p hp rfl
  exact ⟨keep p.1 p.2 ne nf nch e n, free p.1 p.2 nch e n, ne, nf, d⟩
theorem Inv.un {t' : Nat} (I : Inv X pins σ H s) (u : Un X.fs [] H H' s.heap h') (hok : HOk X.prog X.w H' h') : Inv X pins σ H' { s with heap := h', toks := t' } := by
 obtain ⟨m, ⟨o, es, ep, ho, r⟩, _⟩ := id I.loc
 obtain ⟨sl, hL⟩ := u.any ho I.free (by simp)
 exact I.step (g' := s.gens) (d' := s.drawn) (ch := []) (fun _ z => nomatch z) (fun b o _ hb _ e n => u.keep b o e n hb (by simp)) (fun b o _ hb _ e n => u.slot b o e n hb (by simp)) (fun b o _ e n => u.free b o e n (by simp)) (fun b o _ e => u.there b o e (by simp)) u.tups u.frzs u.tbls (fun m' hm => by
  obtain ⟨o', es', ep', ho', r'⟩ := hm
  rw [ho] at ho'; cases ho'
  exact ⟨_, es', ep', hL, r'⟩) hok I.bare
theorem Inv.call {g' : Array GenState} {t' : Nat} {d' : Drawn} {ch : List Addr} (I : Inv X pins σ H s) (u : Un (frs X.stack) ch H H' s.heap h') (hok : HOk X.prog X.w H' h') (hg : AllBare g')
  (hch : ∀ b ∈ ch, (b ∈ X.ex ∨ X.s₀.heap.objs.size ≤ b) ∧ b ≠ X.env.locals ∧ (∀ x c, X.env.cells.lookup x = some c → c ≠ b) ∧ ∀ p ∈ X.pn ++ pins, p.1 ≠ b) :
  Inv X pins σ H' { s with heap := h', gens := g', drawn := d', toks := t' } := by
 obtain ⟨m, ⟨o, es, ep, ho, r⟩, _⟩ := id I.loc
 obtain ⟨sl, hL⟩ := u.any ho I.free fun z => (hch _ z).2.1 rfl
 exact I.step (ch := ch) hch (fun b o hL hb hc e n => u.keep b o e n (fun z => (List.mem_cons.mp (I.stkSub b z)).elim hL hb) hc) (fun b o _ _ hc e n => u.any e n hc) (fun b o hc e n => u.free b o e n hc) (fun b o hc e => u.there b o e hc) u.tups u.frzs u.tbls (fun m' hm => by
  obtain ⟨o', es', ep', ho', r'⟩ := hm
  rw [ho] at ho'; cases ho'
  exact ⟨_, es', ep', hL, r'⟩) hok hg
theorem Inv.turned {t' : Nat} {it : Addr} (I : Inv X pins σ H s) (k : ∀ b o, b ≠ it → s.heap.get? b = some o → h'.get? b = some o) (hn : H it = none) (hL : it ≠ X.env.locals)
  (h1 : it ∈ X.ex ∨ X.s₀.heap.objs.size ≤ it) (h2 : ∀ x c, X.env.cells.lookup x = some c → c ≠ it) (h3 : ∀ p ∈ X.pn ++ pins, p.1 ≠ it) : Inv X pins σ H { s with heap := h', toks := t' } := by
 have nit : ∀ b u, H b = some u → b ≠ it := fun b u e z => by rw [z, hn] at e; cases e
 refine I.step (g' := s.gens) (d' := s.drawn) (ch := [it]) (fun b hb => ?_) (fun b o _ _ hc e _ => k b o (fun z => hc (by simp [z])) e) (fun b o _ _ hc e _ => ⟨o.slots, k b o (fun z => hc (by simp [z])) e⟩) (fun _ _ _ _ n => n)
  (fun b o hc e => ⟨o, k b o (fun z => hc (by simp [z])) e⟩) (fun _ _ e => e) (fun _ _ _ e => e) (fun b ps e => ⟨#[], by rw [e]; simp⟩) (fun m hm => ?_) (fun b u e => ?_) I.bare
 ·have e : b = it := by simpa using hb
  subst e
  exact ⟨h1, hL, h2, h3⟩
 ·obtain ⟨o, es, ep, ho, r⟩ := hm
  exact ⟨o, es, ep, k _ o (Ne.symm hL) ho, r⟩
 ·refine (I.hok b u e).stay (fun c v hc q => k c v ?_ q) (fun _ q => q) fun _ _ q => q
  rcases hc with z | z
  ·rw [z]; exact nit b u e
  ·exact nit c _ z
theorem Inv.tok (I : Inv X pins σ H s) (t : Nat) : Inv X pins σ H { s with toks := t } := I.un (h' := s.heap) (t' := t) Un.refl I.hok
theorem Inv.kept {t' : Nat} (I : Inv X pins σ H s) (k : ∀ b u, s.heap.get? b = some u → h'.get? b = some u) : Inv X pins σ H { s with heap := h', toks := t' } := I.un (Un.kept k) (I.hok.kept k)
theorem Inv.laid {a : Addr} {o : HO} {t' : Nat} (I : Inv X pins σ H s) (k : ∀ b u, s.heap.get? b = some u → h'.get? b = some u) (hp : s.heap.objs.size ≤ a) (new : BZ X.prog X.w (upd H a o) h' a o) :
  Inv X pins σ (upd H a o) { s with heap := h', toks := t' } := I.un (Un.laid k hp (I.hok.fresh hp)) (I.hok.laid k hp new)
theorem Inv.write {x e : Addr} {o : HO} {t' : Nat} (I : Inv X pins σ H s) (mu : Mut (H x)) (he : e = x ∨ H e = some (.own x)) (k : ∀ b u, b ≠ e → s.heap.get? b = some u → h'.get? b = some u) (heo : ∃ u, h'.get? e = some u)
  (new : BZ X.prog X.w (upd H x o) h' x o) : Inv X pins σ (upd H x o) { s with heap := h', toks := t' } := I.un (Un.write mu he k heo) (I.hok.write mu he k heo new)
theorem Inv.pins_of {pins' : List (Addr × Obj)} (I : Inv X pins σ H s) (h : ∀ p ∈ pins', s.heap.get? p.1 = some p.2 ∧ H p.1 = none ∧ p.1 ≠ X.env.locals ∧ p.1 ∉ X.fs ∧ ∀ v, p.2.data ≠ .cell v) : Inv X pins' σ H s :=
 ⟨I.ok, I.os, I.bare, I.base, I.loc, I.cell, I.free, I.freeC, fun p hp => (List.mem_append.mp hp).elim (fun z => I.pin p (List.mem_append_left _ z)) (h p), I.hok, I.len⟩
theorem Ob {N : List Str} (hN : N.Nodup) {i j : Nat} {x : Str} (a : N[i]? = some x) (b : N[j]? = some x) : i = j := by
 obtain ⟨h1, e1⟩ := List.getElem?_eq_some_iff.mp a
 obtain ⟨h2, e2⟩ := List.getElem?_eq_some_iff.mp b
 exact (List.getElem_inj hN).mp (e1.trans e2.symm)
theorem Nj {M : Model} {A : Around} {E : Value → Shared → Prop} {i : Nat} {x : Str} {v : V} {u : Value} {Q : Unit → Shared → Prop} (I : Inv X pins σ H s) (hN : X.N.Nodup) (hi : X.N[i]? = some x) (hx : Loc X.env.scope x) (r : RelV v u)
  (h : ∀ s', Inv X pins (σ.set i (some v)) H s' → (∃ a, Heap.SameBut a s.heap s'.heap ∧ (a = X.env.locals ∨ X.env.cells.lookup x = some a)) → Q () s') (hf : X.fn x = true ∨ X.env.scope.names.lookup x = some .local := by first | exact .inl rfl | exact .inr rfl | assumption) : wpAny M A (storeName X.env x u) Q E s := by
 obtain ⟨m, hn, hl⟩ := id I.loc
 have hcls : (X.env.scope.kind == .class || (X.env.scope.kind == .module && X.env.locals != X.env.globals)) = false := by rw [I.ok.kind]; rfl
 have hiσ : i < σ.length := by rw [I.len]; exact (List.getElem?_eq_some_iff.mp hi).1
 have cne := I.cne
 have tracked : ∀ {a : Addr} {h' : Heap}, (∃ o, s.heap.get? a = some o ∧ H a = none) → Heap.SameBut a s.heap h' → HOk X.prog X.w H h' := fun {a h'} ha hs b ob e => by
  obtain ⟨_, _, hfree⟩ := ha
  refine (I.hok b ob e).stay (fun c w' hc q => (hs.2 c ?_).trans q) (fun _ q => q) fun _ _ q => q
  rintro rfl
  rcases hc with rfl | hc
  ·rw [hfree] at e; cases e
  ·rw [hfree] at hc; cases hc
 rcases hx with hk | hk
 ·refine wpAny_storeName_local hk hn (fun h' hn' hs => ?_) hcls
  obtain ⟨oL, _, _, hoL, _⟩ := id hn
  refine h _ ⟨I.ok, I.os, I.bare, ⟨fun b o e n hb hx => ?_, fun b o e n hb hx => ?_, I.base.free, fun b o e hx => ?_, I.base.tups, I.base.frzs, I.base.tbls⟩, ⟨_, hn', fun j y v' e1 e2 e3 => ?_⟩, fun y c e => ?_, I.free, I.freeC, fun p hp => ?_, tracked ⟨oL, hoL, I.free⟩ hs, by simpa using I.len⟩ ⟨_, hs, .inl rfl⟩
  ·exact (hs.2 b (Nat.ne_of_lt (Nat.lt_of_lt_of_le (Heap.lt_size e) I.ok.above))).trans (I.base.keep b o e n hb hx)
  ·obtain ⟨sl, e1⟩ := I.base.slot b o e n hb hx
   exact ⟨sl, (hs.2 b (Nat.ne_of_lt (Nat.lt_of_lt_of_le (Heap.lt_size e) I.ok.above))).trans e1⟩
  ·obtain ⟨o', e1⟩ := I.base.there b o e hx
   exact ⟨o', (hs.2 b (Nat.ne_of_lt (Nat.lt_of_lt_of_le (Heap.lt_size e) I.ok.above))).trans e1⟩
  ·by_cases hj : j = i
   ·subst hj
    rw [hi] at e1; cases e1
    rw [List.getElem?_set_self hiσ] at e2
    cases e2
    exact ⟨u, r, .inl ⟨hk, by simp⟩⟩
   ·rw [List.getElem?_set_ne (Ne.symm hj)] at e2
    obtain ⟨u', r', q⟩ := hl j y v' e1 e2 e3
    refine ⟨u', r', ?_⟩
    rcases q with ⟨k, e⟩ | ⟨k, c, e, z⟩
    ·refine .inl ⟨k, ?_⟩
     have : y ≠ x := fun e => hj (Ob hN e1 (e ▸ hi))
     simp [this, e]
    ·exact .inr ⟨k, c, e, z.sameBut hs (cne y c e)⟩
  ·obtain ⟨w', z⟩ := I.cell y c e
   exact ⟨w', z.sameBut hs (cne y c e)⟩
  ·obtain ⟨e, n, ne, nf, d⟩ := I.pin p hp
   exact ⟨(hs.2 p.1 ne).trans e, n, ne, nf, d⟩
 ·have hfn : X.fn x = true := by
   rcases hf with z | z
   ·exact z
   ·rw [z] at hk; cases hk
  obtain ⟨c, hc⟩ := I.ok.has x (.inl hk)
  obtain ⟨w', z⟩ := I.cell x c hc
  refine wpAny_storeName_cell I.ok.kind hk hc z (fun h' hc' hs => ?_)
  obtain ⟨oc, hoc, hocd⟩ := id z
  refine h { s with heap := h' } ⟨I.ok, I.os, I.bare, ⟨fun b o e n hb hx => ?_, fun b o e n hb hx => ?_, I.base.free, fun b o e hx => ?_, I.base.tups, I.base.frzs, I.base.tbls⟩, ⟨m, hn.sameBut hs (Ne.symm (cne x c hc)), fun j y v' e1 e2 e3 => ?_⟩, fun y c' e => ?_, I.free, I.freeC, fun p hp => ?_, tracked ⟨oc, hoc, I.freeC x c hc⟩ hs, by simpa using I.len⟩ ⟨c, hs, .inr hc⟩
  ·exact (hs.2 b (Nat.ne_of_lt (Nat.lt_of_lt_of_le (Heap.lt_size e) (I.ok.cab x c hfn hc)))).trans (I.base.keep b o e n hb hx)
  ·obtain ⟨sl, e1⟩ := I.base.slot b o e n hb hx
   exact ⟨sl, (hs.2 b (Nat.ne_of_lt (Nat.lt_of_lt_of_le (Heap.lt_size e) (I.ok.cab x c hfn hc)))).trans e1⟩
  ·obtain ⟨o', e1⟩ := I.base.there b o e hx
   exact ⟨o', (hs.2 b (Nat.ne_of_lt (Nat.lt_of_lt_of_le (Heap.lt_size e) (I.ok.cab x c hfn hc)))).trans e1⟩
  ·by_cases hj : j = i
   ·subst hj
    rw [hi] at e1; cases e1
    rw [List.getElem?_set_self hiσ] at e2
    cases e2
    exact ⟨u, r, .inr ⟨.inl hk, c, hc, hc'⟩⟩
   ·rw [List.getElem?_set_ne (Ne.symm hj)] at e2
    obtain ⟨u', r', q⟩ := hl j y v' e1 e2 e3
    refine ⟨u', r', ?_⟩
    rcases q with q | ⟨k, c', e, z'⟩
    ·exact .inl q
    ·refine .inr ⟨k, c', e, z'.sameBut hs ?_⟩
     rintro rfl
     exact hj (Ob hN e1 (I.ok.inj _ _ _ e hc ▸ hi))
  ·by_cases hcc : c' = c
   ·subst hcc; exact ⟨_, hc'⟩
   ·obtain ⟨w2, z2⟩ := I.cell y c' e
    exact ⟨w2, z2.sameBut hs hcc⟩
  ·obtain ⟨e, n, ne, nf, d⟩ := I.pin p hp
   refine ⟨(hs.2 p.1 ?_).trans e, n, ne, nf, d⟩
   intro q
   rw [q, hoc] at e
   have q' : oc = p.2 := Option.some.inj e
   exact d w' (by rw [← q']; exact hocd)
theorem Jh {M : Model} {A : Around} {E : Value → Shared → Prop} {i : Nat} {x : Str} {v : V} {u : Value} {Q : Unit → Shared → Prop} (I : Inv X pins σ H s) (hN : X.N.Nodup) (hi : X.N[i]? = some x) (hx : Loc X.env.scope x) (r : RelV v u)
  (h : ∀ s', Inv X pins (σ.set i (some v)) H s' → Q () s') (hf : X.fn x = true ∨ X.env.scope.names.lookup x = some .local := by first | exact .inl rfl | exact .inr rfl | assumption) : wpAny M A (storeName X.env x u) Q E s :=
 Nj I hN hi hx r (fun s' I' _ => h s' I') hf
theorem Inv.call' {s' : Shared} {ch : List Addr} (I : Inv X pins σ H s) (ho : s'.os = s.os) (u : Un (frs X.stack) ch H H' s.heap s'.heap) (hok : HOk X.prog X.w H' s'.heap) (hg : AllBare s'.gens)
  (hch : ∀ b ∈ ch, (b ∈ X.ex ∨ X.s₀.heap.objs.size ≤ b) ∧ b ≠ X.env.locals ∧ (∀ x c, X.env.cells.lookup x = some c → c ≠ b) ∧ ∀ p ∈ X.pn ++ pins, p.1 ≠ b) : Inv X pins σ H' s' := by
 obtain ⟨h', g', d', t', o'⟩ := s'
 have e : o' = s.os := ho
 subst e
 exact I.call (g' := g') (t' := t') (d' := d') u hok hg hch
end
abbrev XK := Value → Option Addr → Hp → Prop
abbrev St := List (Option V)
abbrev VK := V → Hp → Prop
abbrev TE := St → Hp → VK → Prop
abbrev TT := St → Hp → (Bool → Hp → Prop) → Prop
abbrev TA := St → Hp → (List V → Hp → Prop) → Prop
structure Ib where
 nx : St → Hp → Prop
 rt : VK
 bk : St → Hp → Prop := fun _ _ => False
 ct : St → Hp → Prop := fun _ _ => False
abbrev TS := Ib → St → Hp → Prop
def EP (X : Cx) (pins : List (Addr × Obj)) (σ : St) (Q : VK) (u : Value) (s' : Shared) : Prop := ∃ v H', Inv X pins σ H' s' ∧ RelV v u ∧ Q v H'
def TP (X : Cx) (pins : List (Addr × Obj)) (σ : St) (Q : Bool → Hp → Prop) (b : Bool) (s' : Shared) : Prop := ∃ H', Inv X pins σ H' s' ∧ Q b H'
def AP (X : Cx) (pins : List (Addr × Obj)) (σ : St) (Q : List V → Hp → Prop) (us : List Value) (s' : Shared) : Prop := ∃ vs H', Inv X pins σ H' s' ∧ Au vs us ∧ Q vs H'
def SP (X : Cx) (pins : List (Addr × Obj)) (D : Ib) (f : Flow) (s' : Shared) : Prop :=
 match f with
 | .next => ∃ σ' H', Inv X pins σ' H' s' ∧ D.nx σ' H'
 | .brk => ∃ σ' H', Inv X pins σ' H' s' ∧ D.bk σ' H'
 | .cont => ∃ σ' H', Inv X pins σ' H' s' ∧ D.ct σ' H'
 | .ret u => ∃ v σ' H', Inv X pins σ' H' s' ∧ RelV v u ∧ D.rt v H'
def PE (X : Cx) (e : Expr) (t : TE) : Prop :=
 ∀ (pins : List (Addr × Obj)) (s : Shared) (σ : St) (H : Hp) (Q : VK), Inv X pins σ H s → t σ H Q → wpAny (model X.prog X.w) X.A (eval e X.env) (EP X pins σ Q) X.xe s
def PT (X : Cx) (e : Expr) (t : TT) : Prop :=
 ∀ (pins : List (Addr × Obj)) (s : Shared) (σ : St) (H : Hp) (Q : Bool → Hp → Prop), Inv X pins σ H s → t σ H Q → wpAny (model X.prog X.w) X.A (isTrue e X.env (eval e X.env)) (TP X pins σ Q) X.xe s
def PW (X : Cx) (e : Expr) (t : TT) : Prop :=
 ∀ (whole : Sem Value) (pins : List (Addr × Obj)) (s : Shared) (σ : St) (H : Hp) (Q : Bool → Hp → Prop), Inv X pins σ H s → t σ H Q → wpAny (model X.prog X.w) X.A (isTrue e X.env whole) (TP X pins σ Q) X.xe s
theorem PW.pt {X : Cx} {e : Expr} {t : TT} (h : PW X e t) : PT X e t := h _
def PA (X : Cx) (es : List Expr) (t : TA) : Prop :=
 ∀ (pos : Pos) (pins : List (Addr × Obj)) (s : Shared) (σ : St) (H : Hp) (Q : List V → Hp → Prop), Inv X pins σ H s → t σ H Q → wpAny (model X.prog X.w) X.A (spliced (backTo pos (starEach es X.env))) (AP X pins σ Q) X.xe s
def PS (X : Cx) (st : Stmt) (t : TS) : Prop :=
 ∀ (pins : List (Addr × Obj)) (s : Shared) (σ : St) (H : Hp) (D : Ib), Inv X pins σ H s → t D σ H → wpAny (model X.prog X.w) X.A (exec st X.env) (SP X pins D) X.xe s
def PSs (X : Cx) (st : List Stmt) (t : TS) : Prop :=
 ∀ (pins : List (Addr × Obj)) (s : Shared) (σ : St) (H : Hp) (D : Ib), Inv X pins σ H s → t D σ H → wpAny (model X.prog X.w) X.A (execs st X.env) (SP X pins D) X.xe s
theorem thn {α : Type} {t : Sem α} {Q Q' : α → Shared → Prop} {M : Model} {A : Around} {E : Value → Shared → Prop} {s : Shared} (h : wpAny M A t Q E s) (hQ : ∀ a s, Q a s → Q' a s) : wpAny M A t Q' E s := wpAny_mono h hQ fun _ _ x => x
end L2
namespace L2
open PySem PySem.Spec PyProof.Rows
section
variable {X : Cx}
def Kw (i : Nat) : TE := fun σ H Q => ∃ v, σ[i]? = some (some v) ∧ Q v H
def tC (v : V) : TE := fun _ H Q => Q v H
theorem WX {i : Nat} {x : Str} {pos : Pos} (hN : X.N[i]? = some x) (hv : Vis X.env.scope x) (hd : (x == ("__debug__" : Str)) = false := by decide) (hcd : (x == ("__classdict__" : Str)) = false := by decide) : PE X (.Name x pos) (Kw i) := by
 intro pins s σ H Q I h
 obtain ⟨v, e, h⟩ := h
 obtain ⟨m, hn, hl⟩ := I.loc
 obtain ⟨u, r, l⟩ := hl i x v hN e hv
 have fin : EP X pins σ Q u s := ⟨v, H, I, r, h⟩
 rcases l with ⟨hk, hm⟩ | ⟨hk, c, hc, hcell⟩
 ·exact wpAny_Name (wpAny_loadName_local I.ok.kind hk hn hm fin) hd
 ·rcases hk with hk | hk
  ·exact wpAny_Name (wpAny_loadName_cell I.ok.kind hk hc hcell fin) hd
  ·exact wpAny_Name (wpAny_loadName_free I.ok.kind hk hc hcell fin hcd) hd
theorem AB {i j pos} : PE X (.Constant (.int i) j pos) (tC (.int i)) := fun _ _ _ H _ I h => wpAny_Constant_int ⟨.int i, H, I.tok _, ⟨_, rfl⟩, h⟩
theorem BE {b j pos} : PE X (.Constant (.bool b) j pos) (tC (.bl b)) := fun _ _ _ H _ I h => Constant_bool ⟨.bl b, H, I, rfl, h⟩
theorem QT {j pos} : PE X (.Constant .none j pos) (tC .non) := fun _ _ _ H _ I h => Constant_none ⟨.non, H, I, rfl, h⟩
theorem Af {x j pos} : PE X (.Constant (.str x) j pos) (tC (.str x)) := fun _ _ _ H _ I h => Calls.Constant_str ⟨.str x, H, I.tok _, ⟨_, rfl⟩, h⟩
def Gl (X : Cx) (x : Str) : Prop := X.env.kindOf x = some .globalImplicit
theorem Jj {E : Value → Shared → Prop} {pins : List (Addr × Obj)} {s : Shared} {σ : St} {H : Hp} {x : Str} {u : Value} {pos : Pos} {Q : Value → Shared → Prop} (I : Inv X pins σ H s) (hg : Gl X x) (hm : X.mg x = some u) (h : Q u s)
  (hd : (x == ("__debug__" : Str)) = false := by decide) : wpAny (model X.prog X.w) X.A (eval (.Name x pos) X.env) Q E s :=
 Calls.Name_function_global I.ok.kind hg (Calls.loadGlobal_global (by rw [I.ok.glob]; exact I.mod.glob.keeps I.bk) hm h) hd
theorem IX {E : Value → Shared → Prop} {pins : List (Addr × Obj)} {s : Shared} {σ : St} {H : Hp} {x : Str} {u : Value} {pos : Pos} {Q : Value → Shared → Prop} (I : Inv X pins σ H s) (hg : Gl X x) (hm : X.mg x = none) (hv : bootBuiltins x = some u) (h : Q u s)
  (hn : x ≠ "__name__" := by decide) (hd : (x == ("__debug__" : Str)) = false := by decide) : wpAny (model X.prog X.w) X.A (eval (.Name x pos) X.env) Q E s := by
 obtain ⟨mb, h1, h2⟩ := I.mod.blt
 exact Calls.Name_function_global I.ok.kind hg (Calls.loadGlobal_builtin (by rw [I.ok.glob]; exact I.mod.glob.keeps I.bk) hm (by rw [I.ok.blt]; exact h1.keeps I.bk) ((h2 x hn).trans hv) h) hd
theorem Ih {x : Str} {v : V} {u : Value} {pos : Pos} (hg : Gl X x) (hm : X.mg x = some u) (r : RelV v u) (hd : (x == ("__debug__" : Str)) = false := by decide) : PE X (.Name x pos) (tC v) :=
 fun _ _ _ H _ I h => Jj I hg hm ⟨v, H, I, r, h⟩ hd
theorem G3 {x : Str} {v : V} {u : Value} {pos : Pos} (hg : Gl X x) (hm : X.mg x = none) (hv : bootBuiltins x = some u) (r : RelV v u) (hn : x ≠ "__name__" := by decide) (hd : (x == ("__debug__" : Str)) = false := by decide) : PE X (.Name x pos) (tC v) :=
 fun _ _ _ H _ I h => IX I hg hm hv ⟨v, H, I, r, h⟩ hn hd
variable {a b : Expr} {ta tb : TE} {pos : Pos}
def PC (X : Cx) (op : CmpOp) (a b : Expr) (t : TE) : Prop :=
 ∀ (pins : List (Addr × Obj)) (s : Shared) (σ : St) (H : Hp) (Q : VK), Inv X pins σ H s → t σ H Q →
  wpAny (model X.prog X.w) X.A (eval a X.env) (fun v s₁ => wpAny (model X.prog X.w) X.A (eval b X.env) (fun u s₂ => wpAny (model X.prog X.w) X.A (compareOp op v u) (EP X pins σ Q) X.xe s₂) X.xe s₁) X.xe s
def tB (t : TE) : TT := fun σ H Q => t σ H fun x H1 => ∃ c, x = .bl c ∧ Q c H1
theorem P7 {op : CmpOp} {t : TE} (h : PC X op a b t) (h1 : behindInMarks op b = false := by first | exact nobehind _ (by decide) (by decide) | rfl) : PT X (.Compare a [op] [b] pos) (tB t) := by
 intro pins s σ H Q I hw
 refine wpAny_isTrue_Compare1 (thn (h pins s σ H _ I hw) fun v s1 h1 => thn h1 fun u s2 h2 => thn h2 fun c s3 ⟨x, H1, I1, r1, q1⟩ => ?_) h1
 obtain ⟨d, rfl, q⟩ := q1
 cases r1
 exact wpAny_truthy_bool ⟨H1, I1, q⟩
theorem Bc {e : Expr} {t : TE} (h : PE X e t) (he : ∀ whole, isTrue e X.env whole = (do let v ← whole; standAt e.pos; holding [v] (truthy v)) := by intro _; rfl) : PT X e (tB t) := by
 intro pins s σ H Q I hw
 refine isTrue_plain (thn (h pins s σ H _ I hw) fun v s1 ⟨x, H1, I1, r1, q1⟩ => ?_) (he _)
 obtain ⟨d, rfl, q⟩ := q1
 cases r1
 exact wpAny_truthy_bool ⟨H1, I1, q⟩
variable {tA tB' : TT} {rest : List Expr}
def MJ (t u : TT) : TT := fun σ H Q => t σ H fun c H1 => if c = true then u σ H1 Q else Q false H1
def tOr (t u : TT) : TT := fun σ H Q => t σ H fun c H1 => if c = true then Q true H1 else u σ H1 Q
def Ms (t : TT) : TT := fun σ H Q => t σ H fun c H1 => Q (!c) H1
theorem C1 (ha : PT X a tA) : PW X (.BoolOp .And [a] pos) tA := by
 intro wh pins s σ H Q I h
 refine isTrue_and (thn (ha pins s σ H Q I h) fun c s1 e => ?_)
 cases c with
 | true => exact isTrue_and_nil e
 | false => exact e
theorem Ey (ha : PT X a tA) : PW X (.BoolOp .Or [a] pos) tA := by
 intro wh pins s σ H Q I h
 refine isTrue_or (thn (ha pins s σ H Q I h) fun c s1 e => ?_)
 cases c with
 | false => exact isTrue_or_nil e
 | true => exact e
theorem De (ha : PT X a tA) (hb : PW X (.BoolOp .And (b :: rest) pos) tB') : PW X (.BoolOp .And (a :: b :: rest) pos) (MJ tA tB') := by
 intro wh pins s σ H Q I h
 refine isTrue_and (thn (ha pins s σ H _ I h) fun c s1 ⟨H1, I1, q1⟩ => ?_)
 cases c with
 | true => exact hb wh pins s1 σ H1 Q I1 q1
 | false => exact ⟨H1, I1, q1⟩
theorem GY (ha : PT X a tA) (hb : PW X (.BoolOp .Or (b :: rest) pos) tB') : PW X (.BoolOp .Or (a :: b :: rest) pos) (tOr tA tB') := by
 intro wh pins s σ H Q I h
 refine isTrue_or (thn (ha pins s σ H _ I h) fun c s1 ⟨H1, I1, q1⟩ => ?_)
 cases c with
 | true => exact ⟨H1, I1, q1⟩
 | false => exact hb wh pins s1 σ H1 Q I1 q1
theorem CO (ha : PT X a tA) : PT X (.UnaryOp .Not a pos) (Ms tA) := by
 intro pins s σ H Q I h
 exact isTrue_not (ha pins s σ H (fun c H1 => Q (!c) H1) I h)
def ID (ta tb : TE) : TE := fun σ H Q => ta σ H fun x H1 => ∃ c, x = .bl c ∧ if c = true then tb σ H1 Q else Q (.bl false) H1
def MY (ta tb : TE) : TE := fun σ H Q => ta σ H fun x H1 => ∃ c, x = .bl c ∧ if c = true then Q (.bl true) H1 else tb σ H1 Q
def Hx (ta : TE) : TE := fun σ H Q => ta σ H fun x H1 => ∃ c, x = .bl c ∧ Q (.bl (!c)) H1
theorem IJ {op} {t : TE} (h : PE X a t) : PE X (.BoolOp op [a] pos) t := fun pins s σ H Q I hw => BoolOp_one (h pins s σ H Q I hw)
theorem K9 (ha : PE X a ta) (hb : PE X (.BoolOp .And (b :: rest) pos) tb) : PE X (.BoolOp .And (a :: b :: rest) pos) (ID ta tb) := by
 intro pins s σ H Q I h
 refine BoolOp_and (thn (ha pins s σ H _ I h) fun v s1 ⟨x, H1, I1, r1, q1⟩ => ?_)
 obtain ⟨c, rfl, q1⟩ := q1
 cases r1
 refine wpAny_truthy_bool ?_
 cases c with
 | true => exact hb pins s1 σ H1 Q I1 q1
 | false => exact ⟨.bl false, H1, I1, rfl, q1⟩
theorem Ug (ha : PE X a ta) (hb : PE X (.BoolOp .Or (b :: rest) pos) tb) : PE X (.BoolOp .Or (a :: b :: rest) pos) (MY ta tb) := by
 intro pins s σ H Q I h
 refine BoolOp_or (thn (ha pins s σ H _ I h) fun v s1 ⟨x, H1, I1, r1, q1⟩ => ?_)
 obtain ⟨c, rfl, q1⟩ := q1
 cases r1
 refine wpAny_truthy_bool ?_
 cases c with
 | false => exact hb pins s1 σ H1 Q I1 q1
 | true => exact ⟨.bl true, H1, I1, rfl, q1⟩
theorem Pq (ha : PE X a ta) : PE X (.UnaryOp .Not a pos) (Hx ta) := by
 intro pins s σ H Q I h
 refine UnaryOp_ (thn (ha pins s σ H _ I h) fun v s1 ⟨x, H1, I1, r1, q1⟩ => ?_)
 obtain ⟨c, rfl, q1⟩ := q1
 cases r1
 exact not_of (wpAny_truthy_bool ⟨.bl (!c), H1, I1, rfl, q1⟩)
def tIf (t : TT) (ta tb : TE) : TE := fun σ H Q => t σ H fun c H1 => if c = true then ta σ H1 Q else tb σ H1 Q
end
end L2
namespace L2
open PySem PySem.Spec PyProof.Rows
def SqL (K : PySem.W.Frag) (H : Hp) (a : Addr) (xs : List V) : Prop :=
 Rd H a (.lst xs) ∨
  ∃ (o : Obj) (its : Array Value) (n : Nat), K.lookup a = some o ∧ o.cls = .type "list" ∧ o.dict = none ∧ o.data = .seq its n ∧ its.size ≤ sizeLine ∧ Au xs its.toList
def SqT (K : PySem.W.Frag) (H : Hp) (a : Addr) (xs : List V) : Prop :=
 Rd H a (.tup xs) ∨
  ∃ (o : Obj) (its : Array Value) (n : Nat), K.lookup a = some o ∧ o.cls = .type "tuple" ∧ o.data = .seq its n ∧ its.size ≤ sizeLine ∧ Au xs its.toList
def absV : Value → Option V
 | .none => some .non
 | .bool b => some (.bl b)
 | .int i _ => some (.int i)
 | .str x _ => some (.str x)
 | .bytes b _ => some (.byt b)
 | .float b _ => some (.flt b)
 | .ref a => some (.ref a)
 | .type n => some (.ty n)
 | _ => none
theorem RelV.abs {x : V} {u : Value} (r : RelV x u) : absV u = some x := by
 cases x with
 | non => cases r; rfl
 | bl _ => cases r; rfl
 | int _ => obtain ⟨t, rfl⟩ := r; rfl
 | str _ => obtain ⟨t, rfl⟩ := r; rfl
 | byt _ => obtain ⟨t, rfl⟩ := r; rfl
 | flt _ => obtain ⟨t, rfl⟩ := r; rfl
 | ref _ => cases r; rfl
 | ty _ => cases r; rfl
theorem RelV.inj {x y : V} {u : Value} (r : RelV x u) (q : RelV y u) : x = y := Option.some.inj (r.abs.symm.trans q.abs)
theorem Au.inj : ∀ {xs ys : List V} {us : List Value}, Au xs us → Au ys us → xs = ys
 | _, _, _, .nil, .nil => rfl
 | _, _, _, .cons r t, .cons r' t' => by rw [r.inj r', Au.inj t t']
section
variable {X : Cx} {pins : List (Addr × Obj)} {σ : St} {H : Hp} {s : Shared} {a : Addr} {xs ys : List V}
theorem SqL.of {K : PySem.W.Frag} (h : H a = some (.lst xs)) : SqL K H a xs := .inl (.inl h)
theorem SqT.of {K : PySem.W.Frag} (h : H a = some (.tup xs)) : SqT K H a xs := .inl (.inl h)
theorem Inv.list (I : Inv X pins σ H s) (h : SqL X.K H a xs) : ∃ its : List Value, Au xs its ∧ PlainL s.heap a its.toArray ∧ xs.length ≤ sizeLine := by
 rcases h with h | ⟨o, its, n, hk, hc, hd, hs, hz, r⟩
 ·obtain ⟨z, its, n, r, e⟩ := h.ok I.hok
  exact ⟨its, r, ⟨_, n, e, rfl, rfl, rfl⟩, z⟩
 ·refine ⟨its.toList, r, ⟨o, n, I.kIn a o hk, hc, hd, by simpa using hs⟩, ?_⟩
  have e := r.length
  simp only [Array.length_toList] at e
  omega
theorem Inv.tuple (I : Inv X pins σ H s) (h : SqT X.K H a xs) : ∃ its : List Value, Au xs its ∧ IsTup s.heap a its.toArray ∧ xs.length ≤ sizeLine := by
 rcases h with h | ⟨o, its, n, hk, hc, hs, hz, r⟩
 ·obtain ⟨z, its, r, p⟩ := h.ok I.hok
  exact ⟨its, r, p, z⟩
 ·refine ⟨its.toList, r, ⟨o, I.kIn a o hk, hc, n, by simpa using hs⟩, ?_⟩
  have e := r.length
  simp only [Array.length_toList] at e
  omega
theorem Inv.list_inj (I : Inv X pins σ H s) (h : SqL X.K H a xs) (h' : SqL X.K H a ys) : xs = ys := by
 obtain ⟨its, r, ⟨o, n, e, _, _, d⟩, _⟩ := I.list h
 obtain ⟨its', r', ⟨o', n', e', _, _, d'⟩, _⟩ := I.list h'
 rw [e] at e'; cases e'
 rw [d] at d'
 injection d' with d1 _
 have : its = its' := by simpa using congrArg Array.toList d1
 subst this
 exact r.inj r'
theorem Inv.tuple_inj (I : Inv X pins σ H s) (h : SqT X.K H a xs) (h' : SqT X.K H a ys) : xs = ys := by
 obtain ⟨its, r, ⟨o, e, _, n, d⟩, _⟩ := I.tuple h
 obtain ⟨its', r', ⟨o', e', _, n', d'⟩, _⟩ := I.tuple h'
 rw [e] at e'; cases e'
 rw [d] at d'
 injection d' with d1 _
 have : its = its' := by simpa using congrArg Array.toList d1
 subst this
 exact r.inj r'
end
abbrev Cx.wish (X : Cx) (E : Value → Shared → Prop) : Cx := { X with xe := E }
abbrev Cx.nox (X : Cx) : Cx := X.wish fun _ _ => False
theorem Cx.Ok.wish {X : Cx} (ok : X.Ok) (E : Value → Shared → Prop) : (X.wish E).Ok :=
 ⟨ok.mod, ok.kind, ok.glob, ok.blt, ok.above, ok.inj, ok.has, ok.cab, ok.hd, ok.frames, ok.stk, ok.exf, ok.bs, ok.bsz, ok.noex, ok.exfs, ok.funs, ok.frf⟩
theorem Cx.Ok.unwish {X : Cx} {E : Value → Shared → Prop} (ok : (X.wish E).Ok) : X.Ok :=
 ⟨ok.mod, ok.kind, ok.glob, ok.blt, ok.above, ok.inj, ok.has, ok.cab, ok.hd, ok.frames, ok.stk, ok.exf, ok.bs, ok.bsz, ok.noex, ok.exfs, ok.funs, ok.frf⟩
section
variable {X : Cx} {pins : List (Addr × Obj)} {σ : St} {H : Hp} {s : Shared} {E : Value → Shared → Prop}
theorem Inv.wish (I : Inv X pins σ H s) (E : Value → Shared → Prop) : Inv (X.wish E) pins σ H s := ⟨I.ok.wish E, I.os, I.bare, I.base, I.loc, I.cell, I.free, I.freeC, I.pin, I.hok, I.len⟩
theorem Inv.unwish (I : Inv (X.wish E) pins σ H s) : Inv X pins σ H s := ⟨I.ok.unwish, I.os, I.bare, I.base, I.loc, I.cell, I.free, I.freeC, I.pin, I.hok, I.len⟩
theorem SP.unwish {D : Ib} {f : Flow} {s' : Shared} (h : SP (X.wish E) pins D f s') : SP X pins D f s' := by
 cases f with
 | next => obtain ⟨σ', H', I, q⟩ := h; exact ⟨σ', H', I.unwish, q⟩
 | brk => obtain ⟨σ', H', I, q⟩ := h; exact ⟨σ', H', I.unwish, q⟩
 | cont => obtain ⟨σ', H', I, q⟩ := h; exact ⟨σ', H', I.unwish, q⟩
 | ret u => obtain ⟨v, σ', H', I, r, q⟩ := h; exact ⟨v, σ', H', I.unwish, r, q⟩
theorem PSs.nox {st : List Stmt} {t : TS} (h : PSs X.nox st t) : PSs X st t := fun pins s σ H D I hw =>
 wpAny_mono (h pins s σ H D (I.wish _) hw) (fun _ _ q => q.unwish) fun _ _ z => False.elim z
end
section
variable {X : Cx} {st : Stmt} {rest : List Stmt} {t u : TS} {e : Expr} {te : TE} {pos : Pos}
def K8 : TS := fun D σ H => D.nx σ H
def Pk (t u : TS) : TS := fun D σ H => t { D with nx := u D } σ H
theorem AV : PSs X [] K8 := fun _ _ σ H _ I h => wpAny_execs_nil ⟨σ, H, I, h⟩
theorem AC (h1 : PS X st t) (h2 : PSs X rest u) : PSs X (st :: rest) (Pk t u) := by
 intro pins s σ H D I h
 refine wpAny_execs_cons (thn (h1 pins s σ H { D with nx := u D } I h) fun f s1 q => ?_)
 cases f with
 | next =>
  obtain ⟨σ', H', I', q⟩ := q
  exact h2 pins s1 σ' H' D I' q
 | ret v => exact q
 | brk => exact q
 | cont => exact q
theorem AE (h1 : PS X st t) : PSs X [st] t := by
 intro pins s σ H D I h
 refine wpAny_execs_cons (thn (h1 pins s σ H D I h) fun f s1 q => ?_)
 cases f with
 | next => exact wpAny_execs_nil q
 | ret v => exact q
 | brk => exact q
 | cont => exact q
def J1 : TS := fun D σ H => D.bk σ H
def Nk : TS := fun D σ H => D.ct σ H
theorem Inv.quiet {pins : List (Addr × Obj)} {σ : St} {H : Hp} {s : Shared} (I : Inv X pins σ H s) : interactive X.env = false := by simp [interactive, I.ok.kind]
def LN (te : TE) : TS := fun D σ H => te σ H fun _ H1 => D.nx σ H1
theorem BX (he : PE X e te) (hs : swapsWith e none pos.line X.env = pure false := by rfl) : PS X (.Expr e pos) (LN te) := by
 intro pins s σ H D I h
 exact wpAny_Expr_any (thn (he pins s σ H _ I h) fun v s1 ⟨x, H1, I1, r1, q1⟩ => ⟨σ, H1, I1, q1⟩) I.quiet hs
def Po (te : TE) : TS := fun D σ H => te σ H D.rt
theorem AI (he : PE X e te) : PS X (.Return (some e) pos) (Po te) := by
 intro pins s σ H D I h
 exact wpAny_Return_some (thn (he pins s σ H _ I h) fun v s1 ⟨x, H1, I1, r1, q1⟩ => ⟨x, σ, H1, I1, r1, q1⟩)
def LU : TS := fun D _ H => D.rt .non H
theorem T7 : PS X (.Return none pos) LU := fun _ _ σ H _ I h => wpAny_Return_none ⟨.non, σ, H, I, rfl, h⟩
def QV (c : TT) (t u : TS) : TS := fun D σ H => c σ H fun b H1 => if b = true then t D σ H1 else u D σ H1
theorem Ah {c : Expr} {a b : List Stmt} {tc : TT} (hc : PT X c tc) (ha : PSs X a t) (hb : PSs X b u) : PS X (.If c a b pos) (QV tc t u) := by
 intro pins s σ H D I h
 refine wpAny_If (thn (hc pins s σ H _ I h) fun d s1 ⟨H1, I1, q1⟩ => ?_)
 cases d with
 | true => exact ha pins s1 σ H1 D I1 q1
 | false => exact hb pins s1 σ H1 D I1 q1
end
abbrev TG := V → St → Hp → (St → Hp → Prop) → Prop
abbrev TGs := List V → St → Hp → (St → Hp → Prop) → Prop
def PG (X : Cx) (target : Expr) (t : TG) : Prop :=
 ∀ (pins : List (Addr × Obj)) (s : Shared) (σ : St) (H : Hp) (v : V) (u : Value) (Q : St → Hp → Prop), Inv X pins σ H s → RelV v u → t v σ H Q →
  wpAny (model X.prog X.w) X.A (assign target X.env u) (fun _ s' => ∃ σ' H', Inv X pins σ' H' s' ∧ Q σ' H') X.xe s
def PGs (X : Cx) (ts : List Expr) (t : TGs) : Prop :=
 ∀ (pins : List (Addr × Obj)) (s : Shared) (σ : St) (H : Hp) (vs : List V) (us : List Value) (Q : St → Hp → Prop), Inv X pins σ H s → Au vs us → t vs σ H Q →
  wpAny (model X.prog X.w) X.A (assignInOrder ((assignEach ts X.env).map (·.2)) us) (fun _ s' => ∃ σ' H', Inv X pins σ' H' s' ∧ Q σ' H') X.xe s
abbrev XB := V → V → V → Hp → (Hp → Prop) → Prop
def PSet (X : Cx) (t : XB) : Prop :=
 ∀ (pins : List (Addr × Obj)) (s : Shared) (σ : St) (H : Hp) (o i v : V) (ov iv u : Value) (Q : Hp → Prop), Inv X pins σ H s → RelV o ov → RelV i iv → RelV v u → t o i v H Q →
  wpAny (model X.prog X.w) X.A (setItem ov iv u) (fun _ s' => ∃ H', Inv X pins σ H' s' ∧ Q H') X.xe s
section
variable {X : Cx} {pos : Pos}
def GC (i : Nat) : TG := fun v σ H Q => Q (σ.set i (some v)) H
theorem AZ {i : Nat} {x : Str} (hN : X.N.Nodup) (hi : X.N[i]? = some x) (hx : Loc X.env.scope x) (hf : X.fn x = true ∨ X.env.scope.names.lookup x = some .local := by first | exact .inl rfl | exact .inr rfl | assumption) : PG X (.Name x pos) (GC i) := by
 intro pins s σ H v u Q I r h
 exact wpAny_assign_Name (Jh I hN hi hx r (fun s' I' => ⟨_, H, I', h⟩) hf)
def Jx : TGs := fun vs σ H Q => vs = [] ∧ Q σ H
def FL (t : TG) (u : TGs) : TGs := fun vs σ H Q => ∃ v r, vs = v :: r ∧ t v σ H fun σ' H' => u r σ' H' Q
theorem Cy : PGs X [] Jx := by
 intro pins s σ H vs us Q I r h
 obtain ⟨e, h⟩ := h
 subst e
 cases r
 exact assignInOrder_nil ⟨σ, H, I, h⟩
theorem Ao {e : Expr} {es : List Expr} {t : TG} {u : TGs} (h1 : PG X e t) (h2 : PGs X es u)
  (hs : (assignEach (e :: es) X.env).map (·.2) = assign e X.env :: (assignEach es X.env).map (·.2) := by rfl) : PGs X (e :: es) (FL t u) := by
 intro pins s σ H vs us Q I r h
 obtain ⟨v, vr, e1, h⟩ := h
 subst e1
 cases r with
 | cons r rr =>
  rw [hs]
  refine assignInOrder_cons (thn (h1 pins s σ H _ _ _ I r h) fun _ s1 ⟨σ1, H1, I1, q1⟩ => ?_)
  exact h2 pins s1 σ1 H1 _ _ Q I1 rr q1
def Js (K : PySem.W.Frag) (n : Nat) (t : TGs) : TG := fun v σ H Q => ∃ a xs, v = .ref a ∧ SqT K H a xs ∧ xs.length = n ∧ t xs σ H Q
theorem Fm {es : List Expr} {k : Nat} {t : TGs} {n : Nat} (hc : X.calm = true) (h : PGs X es t)
  (hn : (assignEach es X.env).length = n := by rfl) (hst : (assignEach es X.env).findIdx? (·.1) = none := by rfl) : PG X (.Tuple es k pos) (Js X.K n t) := by
 intro pins s σ H v u Q I r hw
 obtain ⟨a, xs, e1, hq, hl, hw⟩ := hw
 subst e1
 cases r
 obtain ⟨its, rv, ht, hz⟩ := I.tuple hq
 refine assign_Tuple_tuple (I.ok.hd hc) ht (by simp [hn, ← hl, rv.length]) hst fun h' hx => ?_
 have I1 : Inv X pins σ H { s with heap := h' } := I.kept (t' := s.toks) fun b o e => hx b o (Nat.ne_of_lt (Heap.lt_size e)) e
 exact h pins _ σ H xs _ Q I1 (by simpa using rv) hw
def Mt (to ti : TE) (t : XB) : TG := fun v σ H Q => to σ H fun o H1 => ti σ H1 fun i H2 => t o i v H2 fun H3 => Q σ H3
theorem U9 {o i : Expr} {to ti : TE} {t : XB} (ho : PE X o to) (hi : PE X i ti) (hs : PSet X t)
  (ha : ∀ v, assign (.Subscript o i pos) X.env v = (do
   let ov ← holding [v] (eval o X.env)
   let iv ← holding [v, ov] (eval i X.env)
   standAt pos
   holding [v, ov, iv] (setItem ov iv v)
   release [v, ov, iv] []) := by intro _; rfl) : PG X (.Subscript o i pos) (Mt to ti t) := by
 intro pins s σ H v u Q I r h
 rw [ha]
 refine wpAny_bind (wpAny_holding (thn (ho pins s σ H _ I h) fun ov s1 ⟨x, H1, I1, r1, q1⟩ => ?_))
 refine wpAny_bind (wpAny_holding (thn (hi pins s1 σ H1 _ I1 q1) fun iv s2 ⟨y, H2, I2, r2, q2⟩ => ?_))
 refine wpAny_bind (wpAny_standAt (wpAny_bind (wpAny_holding (thn (hs pins s2 σ H2 x y v ov iv u _ I2 r1 r2 r q2) fun _ s3 ⟨H3, I3, q3⟩ => ?_))))
 exact wpAny_release ⟨σ, H3, I3, q3⟩
def LD (te : TE) (g : TG) : TS := fun D σ H => te σ H fun x H1 => g x σ H1 D.nx
theorem Fc {tg e : Expr} {te : TE} {g : TG} (he : PE X e te) (hg : PG X tg g) (hs : swapsWithSole [tg] e pos.line X.env = pure false := by rfl) (hw : swappedStores [tg] e X.env = pure none := by rfl)
  (h1 : (assignEach [tg] X.env).map (·.2) = [assign tg X.env] := by rfl) : PS X (.Assign [tg] e pos) (LD te g) := by
 intro pins s σ H D I h
 refine wpAny_Assign_stores (thn (he pins s σ H _ I h) fun v s1 ⟨x, H1, I1, r1, q1⟩ => ?_) hs hw
 rw [h1]
 exact thn (hg pins s1 σ H1 x v _ I1 r1 q1) fun _ s2 q => q
theorem AJ {i : Nat} {x : Str} {e : Expr} {te : TE} {pos' : Pos} (hN : X.N.Nodup) (hi : X.N[i]? = some x) (hx : Loc X.env.scope x) (he : PE X e te) (hs : swapsWith e (some (.Name x pos')) pos.line X.env = pure false := by rfl) (hf : X.fn x = true ∨ X.env.scope.names.lookup x = some .local := by first | exact .inl rfl | exact .inr rfl | assumption) :
  PS X (.Assign [.Name x pos'] e pos) (LD te (GC i)) := by
 intro pins s σ H D I h
 refine wpAny_Assign_Name (thn (he pins s σ H _ I h) fun v s1 ⟨y, H1, I1, r1, q1⟩ => ?_) hs
 exact Jh I1 hN hi hx r1 (fun s2 I2 => ⟨_, H1, I2, q1⟩) hf
def QZ (i j : Nat) (ta : TA) : TS := fun D σ H => ta σ H fun vs H1 => ∃ v w, vs = [v, w] ∧ D.nx ((σ.set i (some v)).set j (some w)) H1
theorem WG {i j : Nat} {x y : Str} {a b : Expr} {ta : TA} {px py pt : Pos} {kt k2 pt2} (hc : X.calm = true) (hN : X.N.Nodup) (hi : X.N[i]? = some x) (hj : X.N[j]? = some y) (hij : i ≠ j)
  (hx : X.env.scope.names.lookup x = some .local) (hy : X.env.scope.names.lookup y = some .local) (ha : PA X [a, b] ta)
  (hw : swappedStores [.Tuple [.Name x px, .Name y py] kt pt] (.Tuple [a, b] k2 pt2) X.env = pure (some [x, y]))
  (hs : swapsWithSole [.Tuple [.Name x px, .Name y py] kt pt] (.Tuple [a, b] k2 pt2) pos.line X.env = pure false := by rfl) :
  PS X (.Assign [.Tuple [.Name x px, .Name y py] kt pt] (.Tuple [a, b] k2 pt2) pos) (QZ i j ta) := by
 intro pins s σ H D I h
 rw [exec_Assign_arm]
 refine wpAny_bind (wpAny_standAt ?_)
 rw [hs]
 refine wpAny_bind (wpAny_pure ?_)
 rw [if_neg (by decide)]
 refine wpAny_bind (Tuple_ (thn (ha _ pins s σ H _ I h) fun us s1 ⟨vs, H1, I1, r1, q1⟩ => ?_))
 obtain ⟨v, w, e1, q1⟩ := q1
 subst e1
 obtain ⟨u1, u2, rfl, rv, rw'⟩ : ∃ u1 u2, us = [u1, u2] ∧ RelV v u1 ∧ RelV w u2 := by
  cases r1 with
  | cons p q =>
   cases q with
   | cons p' q' =>
    cases q'
    exact ⟨_, _, rfl, p, p'⟩
 refine wpAny_newObj_type ?_ (by show 2 ≤ sizeLine; decide)
 have I2 : Inv X pins σ H1 { s1 with heap := s1.heap.push { cls := .type "tuple", data := .seq [u1, u2].toArray } } := I1.kept (t' := s1.toks) fun b o e => Heap.get?_push_of_some _ e
 rw [hw]
 refine wpAny_bind (wpAny_pure ?_)
 show wpAny (model X.prog X.w) X.A (do rule "assign.swapped-stores"; let items ← unpackItems (.ref s1.heap.objs.size) 2 none; assignInOrder [fun v => bindName X.env y v, fun v => bindName X.env x v] items.reverse; pure Flow.next) _ _ _
 refine wpAny_bind (wpAny_rule (wpAny_bind (unpackItems_tuple (items := #[u1, u2]) (I.ok.hd hc) (IsTup.new s1.heap _) fun h' hx' => ?_)))
 have I3 := I2.kept (h' := h') (t' := s1.toks) fun b o e => hx' b o (Nat.ne_of_lt (Heap.lt_size e)) e
 show wpAny _ _ (assignInOrder [fun v => bindName X.env y v, fun v => bindName X.env x v] [u2, u1] >>= fun _ => pure Flow.next) _ _ _
 refine wpAny_bind (assignInOrder_cons (wpAny_bindName (Jh I3 hN hj (.inl hy) rw' (fun s2 I4 => ?_) (.inr hy))))
 refine assignInOrder_cons (wpAny_bindName (Jh I4 hN hi (.inl hx) rv (fun s3 I5 => assignInOrder_nil (wpAny_pure ?_)) (.inr hx)))
 rw [List.set_comm _ _ (Ne.symm hij)] at I5
 exact ⟨_, H1, I5, q1⟩
end
section
variable {X : Cx} {pos : Pos}
def V0 (c : TT) (tb : TS) : TS := fun D σ H => ∃ W : Nat → St → Hp → Prop, (∃ m, W m σ H) ∧ ∀ m σ H, W m σ H →
 c σ H fun b H1 => if b = true then ∃ N : St → Hp → Prop, (∀ σ' H', N σ' H' → ∃ m', m' < m ∧ W m' σ' H') ∧ tb { D with nx := N, ct := N, bk := D.nx } σ H1 else D.nx σ H1
theorem Ov {c : Expr} {body : List Stmt} {tc : TT} {tb : TS} (hp : PassesOwn (model X.prog X.w) X.A X.env X.xe) (hc : PT X c tc) (hb : PSs X body tb) : PS X (.While c body [] pos) (V0 tc tb) := by
 intro pins s σ H D I h
 obtain ⟨W, ⟨m0, w0⟩, turn⟩ := h
 refine wpAny_While (codeAny_whileLoop (fun n s' => ∃ σ' H', Inv X pins σ' H' s' ∧ W n σ' H') ?_ m0 ⟨σ, H, I, w0⟩)
 rintro n s1 ⟨σ1, H1, I1, w1⟩
 refine wpAny_passesOwn hp (thn (hc pins s1 σ1 H1 _ I1 (turn n σ1 H1 w1)) fun b s2 ⟨H2, I2, q2⟩ => ?_)
 cases b with
 | true =>
  obtain ⟨N, hN, q2⟩ := q2
  rw [if_pos rfl]
  refine wpAny_passesOwn hp (thn (hb pins s2 σ1 H2 _ I2 q2) fun f s3 q3 => ?_)
  cases f with
  | next =>
   obtain ⟨σ3, H3, I3, n3⟩ := q3
   obtain ⟨m', hm, w3⟩ := hN σ3 H3 n3
   exact ⟨m', hm, σ3, H3, I3, w3⟩
  | cont =>
   obtain ⟨σ3, H3, I3, n3⟩ := q3
   obtain ⟨m', hm, w3⟩ := hN σ3 H3 n3
   exact ⟨m', hm, σ3, H3, I3, w3⟩
  | brk => exact q3
  | ret v => exact q3
 | false =>
  rw [if_neg Bool.false_ne_true]
  exact wpAny_execs_nil ⟨σ1, H2, I2, q2⟩
end
structure It where
 go : Nat → Hp → Prop
 yld : Nat → Hp → V → Hp → Prop
 stop : Nat → Hp → Prop
def Ko (X : Cx) (pins : List (Addr × Obj)) (H : Hp) (b : Addr) : Prop :=
 H b = none ∧ b ≠ X.env.locals ∧ b ∉ X.fs ∧ (b ∈ X.ex ∨ X.s₀.heap.objs.size ≤ b) ∧ (∀ x c, X.env.cells.lookup x = some c → c ≠ b) ∧ ∀ p ∈ X.pn ++ pins, p.1 ≠ b
theorem Inv.fpOk {X : Cx} {pins : List (Addr × Obj)} {σ : St} {H H' : Hp} {s : Shared} {b : Addr} (I : Inv X pins σ H s) (hb : s.heap.objs.size ≤ b) (hn : H' b = none) : Ko X pins H' b := by
 refine ⟨hn, Nat.ne_of_gt (Nat.lt_of_lt_of_le I.lt hb), I.nofs hb, .inr (Nat.le_trans I.sz hb), fun x c e z => ?_, fun p hp z => ?_⟩
 ·obtain ⟨v, q⟩ := I.cell x c e
  exact absurd (Nat.lt_of_lt_of_le q.lt (by rw [z]; exact hb)) (Nat.lt_irrefl _)
 ·exact absurd (Nat.lt_of_lt_of_le (Heap.lt_size (I.pin p hp).1) (by rw [z]; exact hb)) (Nat.lt_irrefl _)
structure RW (P : Program) (w : World) (K : PySem.W.Frag) (tg : Expr) (J : It) (fp : List Addr) (it : Addr) (tn : Nat → Heap → Prop) : Prop where
 mem : it ∈ fp
 obj : ∀ i h, tn i h → ∀ b ∈ fp, ∃ o, h.get? b = some o ∧ ∀ v, o.data ≠ .cell v
 keep : ∀ i h h', tn i h → (∀ b ∈ fp, ∀ o, h.get? b = some o → h'.get? b = some o) → tn i h'
 item : ∀ (X : Cx), X.prog = P → X.w = w → X.K = K → X.calm = true → ∀ (i : Nat) (pins : List (Addr × Obj)) (s : Shared) (σ : St) (H : Hp) (E : Value → Shared → Prop), Inv X pins σ H s → (∀ b ∈ fp, Ko X pins H b) → tn i s.heap → J.go i H →
  wpAny (model P w) X.A (pyNext (.ref it)) (fun r s1 => ∃ u, r = some u ∧
   wpAny (model P w) X.A (letOwnedTupleGo tg (.ref it) u) (fun _ s2 => ∃ x H', Inv X pins σ H' s2 ∧ RelV x u ∧ J.yld i H x H' ∧ tn (i + 1) s2.heap ∧ ∀ b ∈ fp, H' b = none) E s1) E s
 done : ∀ (X : Cx), X.prog = P → X.w = w → X.K = K → X.calm = true → ∀ (i : Nat) (pins : List (Addr × Obj)) (s : Shared) (σ : St) (H : Hp) (E : Value → Shared → Prop), Inv X pins σ H s → (∀ b ∈ fp, Ko X pins H b) → tn i s.heap → J.stop i H →
  wpAny (model P w) X.A (pyNext (.ref it)) (fun r s1 => r = none ∧ Inv X pins σ H s1) E s
 self : ∀ (A : Around) (i : Nat) (s : Shared) (Q : Value → Shared → Prop) (E : Value → Shared → Prop), tn i s.heap → Q (.ref it) s → wpAny (model P w) A (pyIter (.ref it)) Q E s
abbrev TI := St → Hp → (It → Hp → Prop) → Prop
def PIE (X : Cx) (pins : List (Addr × Obj)) (σ : St) (tg : Expr) (R : It → Hp → Prop) (itv : Value) (s2 : Shared) : Prop :=
 ∃ (it : Addr) (fp : List Addr) (tn : Nat → Heap → Prop) (J : It) (H' : Hp), itv = .ref it ∧ Inv X pins σ H' s2 ∧ RW X.prog X.w X.K tg J fp it tn ∧ tn 0 s2.heap ∧ (∀ b ∈ fp, Ko X pins H' b) ∧ R J H'
def PI (X : Cx) (tg iter : Expr) (wi : TI) : Prop :=
 ∀ (pins : List (Addr × Obj)) (s : Shared) (σ : St) (H : Hp) (R : It → Hp → Prop), Inv X pins σ H s → wi σ H R →
  wpAny (model X.prog X.w) X.A (eval iter X.env) (fun v s1 => wpAny (model X.prog X.w) X.A (pyIter v) (PIE X pins σ tg R) X.xe s1) X.xe s
theorem TW {M : Model} {A : Around} {E : Value → Shared → Prop} {s : Shared} {tg : Expr} {it : Addr} {u : Value} {o : Obj} {n : String} {vs : Array Value} {Q : Unit → Shared → Prop} (ho : s.heap.get? it = some o) (hc : o.cls = .type n) (hd : o.data = .fields vs)
  (hn : ["enumerate", "zip", "dict_itemiterator", "dict_reverseitemiterator", "odict_iterator", "itertools.zip_longest", "itertools.pairwise"].contains n = false) (hQ : Q () s) : wpAny M A (letOwnedTupleGo tg (.ref it) u) Q E s := by
 unfold letOwnedTupleGo
 cases tg <;> first
  | exact wpAny_pure hQ
  | (cases u <;> first
    | exact wpAny_pure hQ
    | (refine wpAny_bind (wpAny_load ho ?_)
       rw [hc, hd]
       show wpAny M A (if (["enumerate", "zip", "dict_itemiterator", "dict_reverseitemiterator", "odict_iterator", "itertools.zip_longest", "itertools.pairwise"].contains n && vs[0]? == some (rawInt _)) = true then _ else _) Q E s
       rw [if_neg (by intro h; rw [hn, Bool.false_and] at h; cases h)]
       exact wpAny_pure hQ))
def Itl (K : PySem.W.Frag) (a : Addr) : It :=
 ⟨fun i H => ∃ xs x, SqL K H a xs ∧ xs[i]? = some x, fun i H x H' => H' = H ∧ ∀ xs, SqL K H a xs → xs[i]? = some x, fun i H => ∃ xs, SqL K H a xs ∧ xs.length ≤ i⟩
def Itt (K : PySem.W.Frag) (a : Addr) : It :=
 ⟨fun i H => ∃ xs x, SqT K H a xs ∧ xs[i]? = some x, fun i H x H' => H' = H ∧ ∀ xs, SqT K H a xs → xs[i]? = some x, fun i H => ∃ xs, SqT K H a xs ∧ xs.length ≤ i⟩
def Itr (lo : Int) (n : Nat) : It := ⟨fun i _ => i < n, fun i H x H' => H' = H ∧ x = .int (lo + i), fun i _ => n ≤ i⟩
theorem RQ {P : Program} {w : World} {K : PySem.W.Frag} {tg : Expr} (a it : Addr) : RW P w K tg (Itl K a) [it] it (fun i h => h.IsListIter it a i) where
 mem := by simp
 obj := fun i h st b hb => by
  have e : b = it := by simpa using hb
  subst e
  obtain ⟨o, e, c, d⟩ := st
  exact ⟨o, e, fun v z => by rw [d] at z; cases z⟩
 keep := fun i h h' st k => st.at fun o e => k it (by simp) o e
 item := by
  intro X hP hw hK hc i pins s σ H E I hf st hg
  subst hP hw hK
  obtain ⟨xs, x, hq, hx⟩ := hg
  obtain ⟨its, rv, p, hz⟩ := I.list hq
  obtain ⟨u, hu, ru⟩ := rv.get hx
  obtain ⟨f0, f1, f2, f3, f4, f5⟩ := hf it (by simp)
  refine wpAny_pyNext_list_item st p.isList (x := u) (by simpa using hu) fun h' st' sb => ?_
  have I1 : Inv X pins σ H { s with heap := h' } := I.turned (t' := s.toks) (fun b o hb e => (sb.2 b hb).trans e) f0 f1 f3 f4 f5
  obtain ⟨o, e, c, d⟩ := id st'
  exact ⟨u, rfl, TW (s := { s with heap := h' }) e c d (by decide) ⟨x, H, I1, ru, ⟨rfl, fun ys hy => by rw [I.list_inj hy hq]; exact hx⟩, st', fun b hb => (hf b hb).1⟩⟩
 done := by
  intro X hP hw hK hc i pins s σ H E I hf st hg
  subst hP hw hK
  obtain ⟨xs, hq, hx⟩ := hg
  obtain ⟨its, rv, p, hz⟩ := I.list hq
  obtain ⟨f0, f1, f2, f3, f4, f5⟩ := hf it (by simp)
  have hl := rv.length
  exact wpAny_pyNext_list_end (I.ok.hd hc) st p.isList (by simp; omega) fun h' eb => ⟨rfl, I.turned (t' := s.toks) (fun b o hb e => eb b o hb e) f0 f1 f3 f4 f5⟩
 self := fun _ _ _ _ _ st h => wpAny_pyIter_listiter st h
theorem QP {P : Program} {w : World} {K : PySem.W.Frag} {tg : Expr} (a it : Addr) : RW P w K tg (Itt K a) [it] it (fun i h => h.IsTupleIter it a i) where
 mem := by simp
 obj := fun i h st b hb => by
  have e : b = it := by simpa using hb
  subst e
  obtain ⟨o, e, c, d⟩ := st
  exact ⟨o, e, fun v z => by rw [d] at z; cases z⟩
 keep := fun i h h' st k => st.at fun o e => k it (by simp) o e
 item := by
  intro X hP hw hK hc i pins s σ H E I hf st hg
  subst hP hw hK
  obtain ⟨xs, x, hq, hx⟩ := hg
  obtain ⟨its, rv, p, hz⟩ := I.tuple hq
  obtain ⟨u, hu, ru⟩ := rv.get hx
  obtain ⟨f0, f1, f2, f3, f4, f5⟩ := hf it (by simp)
  refine wpAny_pyNext_tuple_item st (show s.heap.IsTuple a its.toArray from p) (x := u) (by simpa using hu) fun h' st' sb => ?_
  have I1 : Inv X pins σ H { s with heap := h' } := I.turned (t' := s.toks) (fun b o hb e => (sb.2 b hb).trans e) f0 f1 f3 f4 f5
  obtain ⟨o, e, c, d⟩ := id st'
  exact ⟨u, rfl, TW (s := { s with heap := h' }) e c d (by decide) ⟨x, H, I1, ru, ⟨rfl, fun ys hy => by rw [I.tuple_inj hy hq]; exact hx⟩, st', fun b hb => (hf b hb).1⟩⟩
 done := by
  intro X hP hw hK hc i pins s σ H E I hf st hg
  subst hP hw hK
  obtain ⟨xs, hq, hx⟩ := hg
  obtain ⟨its, rv, p, hz⟩ := I.tuple hq
  obtain ⟨f0, f1, f2, f3, f4, f5⟩ := hf it (by simp)
  have hl := rv.length
  exact wpAny_pyNext_tuple_end (I.ok.hd hc) st (show s.heap.IsTuple a its.toArray from p) (by simp; omega) fun h' eb => ⟨rfl, I.turned (t' := s.toks) (fun b o hb e => eb b o hb e) f0 f1 f3 f4 f5⟩
 self := fun _ _ _ _ _ st h => wpAny_pyIter_tupleiter st h
theorem P6 {P : Program} {w : World} {K : PySem.W.Frag} {tg : Expr} (it : Addr) (lo : Int) (n : Nat) : RW P w K tg (Itr lo n) [it] it (fun i h => IsRangeIter h it (lo + (i : Nat) * 1) ((n : Int) - (i : Nat)) 1) where
 mem := by simp
 obj := fun i h st b hb => by
  have e : b = it := by simpa using hb
  subst e
  exact ⟨_, st, fun v z => by
   have z' : Data.fields _ = Data.cell v := z
   cases z'⟩
 keep := fun i h h' st k => k it (by simp) _ st
 item := by
  intro X hP hw hK hc i pins s σ H E I hf st hg
  subst hP hw hK
  obtain ⟨f0, f1, f2, f3, f4, f5⟩ := hf it (by simp)
  have W := Walks.range (prog := X.prog) (w := X.w) (I.ok.hd hc) it lo 1 n
  refine W.item i s _ _ hg st fun v h' tk hv st' kk => ?_
  obtain ⟨t, rfl⟩ := hv
  have I1 : Inv X pins σ H { s with heap := h', toks := tk } := I.turned (fun b o hb e => kk b o (by simpa using hb) e) f0 f1 f3 f4 f5
  refine ⟨_, rfl, TW (s := { s with heap := h', toks := tk }) (n := "range_iterator") st' rfl rfl (by decide) ⟨.int (lo + i), H, I1, ⟨t, ?_⟩, ⟨rfl, rfl⟩, st', fun b hb => (hf b hb).1⟩⟩
  rw [Int.mul_one]
 done := by
  intro X hP hw hK hc i pins s σ H E I hf st hg
  subst hP hw hK
  obtain ⟨f0, f1, f2, f3, f4, f5⟩ := hf it (by simp)
  exact wpAny_pyNext_range_end (I.ok.hd hc) st (by have : n ≤ i := hg; omega) fun h' eb => ⟨rfl, I.turned (t' := s.toks) (fun b o hb e => eb b o hb e) f0 f1 f3 f4 f5⟩
 self := fun _ _ _ _ _ st h => wpAny_pyIter_rangeiter st h
end L2
namespace L2
open PySem PySem.Spec PyProof.Rows
section
variable {X : Cx} {tg : Expr}
def JV (K : PySem.W.Frag) (tl : TE) : TI := fun σ H R => tl σ H fun x H1 => ∃ a, x = .ref a ∧ (∃ xs, SqL K H1 a xs) ∧ R (Itl K a) H1
def iTup (K : PySem.W.Frag) (tl : TE) : TI := fun σ H R => tl σ H fun x H1 => ∃ a, x = .ref a ∧ (∃ xs, SqT K H1 a xs) ∧ R (Itt K a) H1
theorem Bi {l : Expr} {tl : TE} (hl : PE X l tl) : PI X tg l (JV X.K tl) := by
 intro pins s σ H R I h
 refine thn (hl pins s σ H _ I h) fun v s1 ⟨x, H1, I1, r1, q1⟩ => ?_
 obtain ⟨a, e, ⟨xs, hq⟩, q⟩ := q1
 subst e
 cases r1
 obtain ⟨its, rv, p, hz⟩ := I1.list hq
 refine wpAny_pyIter_list p.isList ?_
 refine ⟨s1.heap.objs.size, [s1.heap.objs.size], _, _, H1, rfl, I1.kept (t' := s1.toks) fun b o e => Heap.get?_push_of_some _ e, RQ a _, ⟨_, Heap.get?_push_size _ rfl, rfl, rfl⟩, fun b hb => ?_, q⟩
 have e : b = s1.heap.objs.size := by simpa using hb
 subst e
 exact I1.fpOk (Nat.le_refl _) (I1.hok.fresh (Nat.le_refl _))
theorem WE {l : Expr} {tl : TE} (hl : PE X l tl) : PI X tg l (iTup X.K tl) := by
 intro pins s σ H R I h
 refine thn (hl pins s σ H _ I h) fun v s1 ⟨x, H1, I1, r1, q1⟩ => ?_
 obtain ⟨a, e, ⟨xs, hq⟩, q⟩ := q1
 subst e
 cases r1
 obtain ⟨its, rv, p, hz⟩ := I1.tuple hq
 refine wpAny_pyIter_tuple (show s1.heap.IsTuple a its.toArray from p) ?_
 refine ⟨s1.heap.objs.size, [s1.heap.objs.size], _, _, H1, rfl, I1.kept (t' := s1.toks) fun b o e => Heap.get?_push_of_some _ e, QP a _, ⟨_, Heap.get?_push_size _ rfl, rfl, rfl⟩, fun b hb => ?_, q⟩
 have e : b = s1.heap.objs.size := by simpa using hb
 subst e
 exact I1.fpOk (Nat.le_refl _) (I1.hok.fresh (Nat.le_refl _))
theorem PQ {pins : List (Addr × Obj)} {σ : St} {H : Hp} {s : Shared} {R : It → Hp → Prop} {E : Value → Shared → Prop} {lo hi : Int} {t u v : Tok} {tk : Nat} (I : Inv X pins σ H s) (h1 : -(2 ^ 62) ≤ lo) (h2 : lo < 2 ^ 62) (h3 : -(2 ^ 62) ≤ hi) (h4 : hi < 2 ^ 62)
  (q : R (Itr lo (hi - lo).toNat) H) : wpAny (model X.prog X.w) X.A (pyIter (.ref s.heap.objs.size)) (PIE X pins σ tg R) E { s with heap := s.heap.push { cls := .type "range", data := .fields #[.int lo t, .int hi u, .int 1 v] }, toks := tk } := by
 refine wpAny_pyIter_range (IsRange.new ..) (small_one h1 h2 h3 h4) ?_
 have I1 : Inv X pins σ H { s with heap := s.heap.push { cls := .type "range", data := .fields #[.int lo t, .int hi u, .int 1 v] }, toks := tk } := I.kept fun b o e => Heap.get?_push_of_some _ e
 refine ⟨(s.heap.push { cls := .type "range", data := .fields #[.int lo t, .int hi u, .int 1 v] }).objs.size, [(s.heap.push { cls := .type "range", data := .fields #[.int lo t, .int hi u, .int 1 v] }).objs.size], _, _, H, rfl,
  I1.kept (t' := tk) fun b o e => Heap.get?_push_of_some _ e, P6 _ lo (hi - lo).toNat, ?_, fun b hb => ?_, q⟩
 ·have e1 : lo + ((0 : Nat) : Int) * 1 = lo := by simp
  have e2 : (((hi - lo).toNat : Nat) : Int) - ((0 : Nat) : Int) = Builtin.Range.rangeSize lo hi 1 := by rw [rangeSize_one]; split <;> omega
  show IsRangeIter _ _ (lo + ((0 : Nat) : Int) * 1) ((((hi - lo).toNat : Nat) : Int) - ((0 : Nat) : Int)) 1
  rw [e1, e2]
  exact Heap.get?_push_size _ rfl
 ·have e : b = (s.heap.push { cls := .type "range", data := .fields #[.int lo t, .int hi u, .int 1 v] }).objs.size := by simpa using hb
  subst e
  exact I1.fpOk (Nat.le_refl _) (I1.hok.fresh (Nat.le_refl _))
def HM (ta : TA) : TI := fun σ H R => ta σ H fun vs H1 => ∃ j : Int, vs = [.int j] ∧ -(2 ^ 62) ≤ j ∧ j < 2 ^ 62 ∧ R (Itr 0 j.toNat) H1
def Hm (ta : TA) : TI := fun σ H R => ta σ H fun vs H1 => ∃ i j : Int, vs = [.int i, .int j] ∧ (-(2 ^ 62) ≤ i ∧ i < 2 ^ 62 ∧ -(2 ^ 62) ≤ j ∧ j < 2 ^ 62) ∧ R (Itr i (j - i).toNat) H1
theorem Bo {a : Expr} {ta : TA} {p pos : Pos} (hg : Gl X "range") (hm : X.mg "range" = none) (ha : PA X [a] ta) (hs : starEach [a] X.env = [(false, eval a X.env)] := by rfl) : PI X tg (.Call (.Name "range" p) [a] [] pos) (HM ta) := by
 intro pins s σ H R I h
 refine Call_ (IX I hg hm boot_range (PyProof.Rows.callWith_type1 (thn (ha pos pins s σ H _ I h) fun us s1 ⟨vs, H1, I1, r1, q1⟩ => ?_) hs rfl))
 obtain ⟨j, e, q1, q2, q⟩ := q1
 subst e
 cases r1 with
 | cons r rr =>
  cases rr
  obtain ⟨t, rfl⟩ := r
  exact call_range_1 (PQ I1 (by omega) (by omega) q1 q2 (by simpa using q))
theorem KR {a b : Expr} {ta : TA} {p pos : Pos} (hg : Gl X "range") (hm : X.mg "range" = none) (ha : PA X [a, b] ta) (hs : starEach [a, b] X.env = [(false, eval a X.env), (false, eval b X.env)] := by rfl) (hs2 : starEach [b] X.env = [(false, eval b X.env)] := by rfl) :
  PI X tg (.Call (.Name "range" p) [a, b] [] pos) (Hm ta) := by
 intro pins s σ H R I h
 refine Call_ (IX I hg hm boot_range (PyProof.Rows.callWith_type1 (thn (ha pos pins s σ H _ I h) fun us s1 ⟨vs, H1, I1, r1, q1⟩ => ?_) (by rw [hs, hs2]) (by rw [hs2]; rfl)))
 obtain ⟨i, j, e, ⟨q1, q2, q3, q4⟩, q⟩ := q1
 subst e
 cases r1 with
 | cons r rr =>
  cases rr with
  | cons r' rr =>
   cases rr
   obtain ⟨t, rfl⟩ := r
   obtain ⟨t', rfl⟩ := r'
   exact call_range_2 (PQ I1 q1 q2 q3 q4 q)
def tFor (wi : TI) (g : TG) (tb : TS) : TS := fun D σ H => wi σ H fun J H1 => ∃ W : Nat → Nat → St → Hp → Prop, (∃ m, W 0 m σ H1) ∧ ∀ i m σ H, W i m σ H →
 (J.stop i H ∧ D.nx σ H) ∨ (J.go i H ∧ ∃ N : St → Hp → Prop, (∀ σ' H', N σ' H' → ∃ m', m' < m ∧ W (i + 1) m' σ' H') ∧ ∀ x H', J.yld i H x H' → g x σ H' fun σ2 H2 => tb { D with nx := N, ct := N, bk := D.nx } σ2 H2)
def Ld (fp : List Addr) (h : Heap) : List (Addr × Obj) := fp.filterMap fun b => (h.get? b).map fun o => (b, o)
theorem Fl {fp : List Addr} {h : Heap} {b : Addr} {o : Obj} (hb : b ∈ fp) (e : h.get? b = some o) : (b, o) ∈ Ld fp h := List.mem_filterMap.mpr ⟨b, hb, by rw [e]; rfl⟩
theorem RK {fp : List Addr} {h : Heap} {p : Addr × Obj} (hp : p ∈ Ld fp h) : p.1 ∈ fp ∧ h.get? p.1 = some p.2 := by
 obtain ⟨b, hb, e⟩ := List.mem_filterMap.mp hp
 cases q : h.get? b with
 | none => rw [q] at e; cases e
 | some o =>
  rw [q] at e
  have e' : (b, o) = p := Option.some.inj e
  subst e'
  exact ⟨hb, q⟩
theorem Inv.pinned {pins : List (Addr × Obj)} {σ : St} {H : Hp} {s : Shared} {fp : List Addr} (I : Inv X pins σ H s) (hf : ∀ b ∈ fp, Ko X pins H b) (ho : ∀ b ∈ fp, ∃ o, s.heap.get? b = some o ∧ ∀ v, o.data ≠ .cell v) : Inv X (pins ++ Ld fp s.heap) σ H s :=
 I.pins_of fun p hp => (List.mem_append.mp hp).elim (fun z => I.pin p (List.mem_append_right _ z)) fun z => by
  obtain ⟨hb, e⟩ := RK z
  obtain ⟨f0, f1, f2, _⟩ := hf p.1 hb
  obtain ⟨o, e', d⟩ := ho p.1 hb
  rw [e] at e'; cases e'
  exact ⟨e, f0, f1, f2, d⟩
theorem Inv.unpinned {pins pl : List (Addr × Obj)} {σ : St} {H : Hp} {s : Shared} (I : Inv X (pins ++ pl) σ H s) : Inv X pins σ H s := I.pins_of fun p hp => I.pin p (List.mem_append_right _ (List.mem_append_left _ hp))
theorem BO {iter : Expr} {body : List Stmt} {wi : TI} {g : TG} {tb : TS} {pos : Pos} (hp : PassesOwn (model X.prog X.w) X.A X.env X.xe) (hc : X.calm = true) (hi : PI X tg iter wi) (hg : PG X tg g) (hb : PSs X body tb)
  (hs : ∀ x, foldedSetIterable iter X.env x = pure x := by intro _; rfl) : PS X (.For tg iter body [] pos) (tFor wi g tb) := by
 intro pins s σ H D I h
 refine wpAny_For (thn (hi pins s σ H _ I h) fun v s1 h1 => thn h1 fun itv s2 h2 => ?_) hs
 obtain ⟨it, fp, tn, J, H2, e, I2, T, st2, f2, W, ⟨m0, w0⟩, turn⟩ := h2
 subst e
 have stat : ∀ {H' : Hp}, (∀ b ∈ fp, H' b = none) → ∀ b ∈ fp, Ko X pins H' b := fun hn b hb => ⟨hn b hb, (f2 b hb).2⟩
 refine codeAny_forLoop_any (fun n s' => ∃ i σ' H', Inv X pins σ' H' s' ∧ tn i s'.heap ∧ (∀ b ∈ fp, H' b = none) ∧ W i n σ' H') ?_ m0 ⟨0, σ, H2, I2, st2, fun b hb => (f2 b hb).1, w0⟩
 rintro n s3 ⟨i, σ3, H3, I3, st3, fr3, w3⟩
 rcases turn i n σ3 H3 w3 with ⟨stop, qn⟩ | ⟨go, N, hN, step⟩
 ·refine wpAny_passesOwn hp (thn (T.done X rfl rfl rfl hc i pins s3 σ3 H3 X.xe I3 (stat fr3) st3 stop) fun r s4 ⟨hr, I4⟩ => ?_)
  subst hr
  exact wpAny_execs_nil ⟨σ3, H3, I4, qn⟩
 ·refine wpAny_passesOwn hp (thn (T.item X rfl rfl rfl hc i pins s3 σ3 H3 X.xe I3 (stat fr3) st3 go) fun r s4 ⟨u, hr, h4⟩ => ?_)
  subst hr
  refine wpAny_passesOwn hp (thn h4 fun _ s5 ⟨x, H5, I5, r5, y5, st5, fr5⟩ => ?_)
  have I5' := I5.pinned (stat fr5) (T.obj _ _ st5)
  refine wpAny_passesOwn hp (thn (hg _ s5 σ3 H5 x u _ I5' r5 (step x H5 y5)) fun _ s6 ⟨σ6, H6, I6, q6⟩ => ?_)
  refine wpAny_passesOwn hp (thn (hb _ s6 σ6 H6 _ I6 q6) fun f s7 q7 => ?_)
  have again : ∀ {σ7 : St} {H7 : Hp}, Inv X (pins ++ Ld fp s5.heap) σ7 H7 s7 → N σ7 H7 → ∃ m, m < n ∧ ∃ i σ' H', Inv X pins σ' H' s7 ∧ tn i s7.heap ∧ (∀ b ∈ fp, H' b = none) ∧ W i m σ' H' := fun {σ7 H7} I7 n7 => by
   obtain ⟨m', hm, w7⟩ := hN σ7 H7 n7
   refine ⟨m', hm, i + 1, σ7, H7, I7.unpinned, T.keep _ _ _ st5 fun b hb o e => (I7.pin (b, o) (List.mem_append_right _ (List.mem_append_right _ (Fl hb e)))).1, fun b hb => ?_, w7⟩
   obtain ⟨o, e, d⟩ := T.obj _ _ st5 b hb
   exact (I7.pin (b, o) (List.mem_append_right _ (List.mem_append_right _ (Fl hb e)))).2.1
  cases f with
  | next => obtain ⟨σ7, H7, I7, n7⟩ := q7; exact again I7 n7
  | cont => obtain ⟨σ7, H7, I7, n7⟩ := q7; exact again I7 n7
  | brk => obtain ⟨σ7, H7, I7, q7⟩ := q7; exact ⟨σ7, H7, I7.unpinned, q7⟩
  | ret v => obtain ⟨x7, σ7, H7, I7, r7, q7⟩ := q7; exact ⟨x7, σ7, H7, I7.unpinned, r7, q7⟩
end
theorem EQ {K : PySem.W.Frag} {a : Addr} {xs : List V} {g : TG} {tb : TS} {D : Ib} {σ : St} {H : Hp} (Pv : Nat → St → Hp → Prop) (h0 : Pv 0 σ H) (hl : ∀ i σ H, i ≤ xs.length → Pv i σ H → SqL K H a xs)
  (hs : ∀ i x σ H, xs[i]? = some x → Pv i σ H → g x σ H fun σ2 H2 => tb { D with nx := Pv (i + 1), ct := Pv (i + 1), bk := D.nx } σ2 H2) (hd : ∀ σ H, Pv xs.length σ H → D.nx σ H) :
  ∃ W : Nat → Nat → St → Hp → Prop, (∃ m, W 0 m σ H) ∧ ∀ i m σ H, W i m σ H →
   ((Itl K a).stop i H ∧ D.nx σ H) ∨ ((Itl K a).go i H ∧ ∃ N : St → Hp → Prop, (∀ σ' H', N σ' H' → ∃ m', m' < m ∧ W (i + 1) m' σ' H') ∧ ∀ x H', (Itl K a).yld i H x H' → g x σ H' fun σ2 H2 => tb { D with nx := N, ct := N, bk := D.nx } σ2 H2) := by
 refine ⟨fun i m σ H => m = xs.length - i ∧ i ≤ xs.length ∧ Pv i σ H, ⟨xs.length, by simp, Nat.zero_le _, h0⟩, ?_⟩
 rintro i m σ H ⟨rfl, hi, p⟩
 have q := hl i σ H hi p
 by_cases hlt : i < xs.length
 ·refine .inr ⟨⟨xs, xs[i], q, by simp [hlt]⟩, Pv (i + 1), fun σ' H' p' => ⟨xs.length - (i + 1), by omega, rfl, hlt, p'⟩, fun x H' y => ?_⟩
  obtain ⟨e, y⟩ := y
  subst e
  exact hs i x σ _ (y xs q) p
 ·have e : i = xs.length := by omega
  subst e
  exact .inl ⟨⟨xs, q, Nat.le_refl _⟩, hd σ H p⟩
theorem UG {K : PySem.W.Frag} {a : Addr} {xs : List V} {g : TG} {tb : TS} {D : Ib} {σ : St} {H : Hp} (Pv : Nat → St → Hp → Prop) (h0 : Pv 0 σ H) (hl : ∀ i σ H, i ≤ xs.length → Pv i σ H → SqT K H a xs)
  (hs : ∀ i x σ H, xs[i]? = some x → Pv i σ H → g x σ H fun σ2 H2 => tb { D with nx := Pv (i + 1), ct := Pv (i + 1), bk := D.nx } σ2 H2) (hd : ∀ σ H, Pv xs.length σ H → D.nx σ H) :
  ∃ W : Nat → Nat → St → Hp → Prop, (∃ m, W 0 m σ H) ∧ ∀ i m σ H, W i m σ H →
   ((Itt K a).stop i H ∧ D.nx σ H) ∨ ((Itt K a).go i H ∧ ∃ N : St → Hp → Prop, (∀ σ' H', N σ' H' → ∃ m', m' < m ∧ W (i + 1) m' σ' H') ∧ ∀ x H', (Itt K a).yld i H x H' → g x σ H' fun σ2 H2 => tb { D with nx := N, ct := N, bk := D.nx } σ2 H2) := by
 refine ⟨fun i m σ H => m = xs.length - i ∧ i ≤ xs.length ∧ Pv i σ H, ⟨xs.length, by simp, Nat.zero_le _, h0⟩, ?_⟩
 rintro i m σ H ⟨rfl, hi, p⟩
 have q := hl i σ H hi p
 by_cases hlt : i < xs.length
 ·refine .inr ⟨⟨xs, xs[i], q, by simp [hlt]⟩, Pv (i + 1), fun σ' H' p' => ⟨xs.length - (i + 1), by omega, rfl, hlt, p'⟩, fun x H' y => ?_⟩
  obtain ⟨e, y⟩ := y
  subst e
  exact hs i x σ _ (y xs q) p
 ·have e : i = xs.length := by omega
  subst e
  exact .inl ⟨⟨xs, q, Nat.le_refl _⟩, hd σ H p⟩
theorem BM {lo : Int} {n : Nat} {g : TG} {tb : TS} {D : Ib} {σ : St} {H : Hp} (Pv : Nat → St → Hp → Prop) (h0 : Pv 0 σ H)
  (hs : ∀ i σ H, i < n → Pv i σ H → g (.int (lo + i)) σ H fun σ2 H2 => tb { D with nx := Pv (i + 1), ct := Pv (i + 1), bk := D.nx } σ2 H2) (hd : ∀ σ H, Pv n σ H → D.nx σ H) :
  ∃ W : Nat → Nat → St → Hp → Prop, (∃ m, W 0 m σ H) ∧ ∀ i m σ H, W i m σ H →
   ((Itr lo n).stop i H ∧ D.nx σ H) ∨ ((Itr lo n).go i H ∧ ∃ N : St → Hp → Prop, (∀ σ' H', N σ' H' → ∃ m', m' < m ∧ W (i + 1) m' σ' H') ∧ ∀ x H', (Itr lo n).yld i H x H' → g x σ H' fun σ2 H2 => tb { D with nx := N, ct := N, bk := D.nx } σ2 H2) := by
 refine ⟨fun i m σ H => m = n - i ∧ i ≤ n ∧ Pv i σ H, ⟨n, by simp, Nat.zero_le _, h0⟩, ?_⟩
 rintro i m σ H ⟨rfl, hi, p⟩
 by_cases hlt : i < n
 ·refine .inr ⟨hlt, Pv (i + 1), fun σ' H' p' => ⟨n - (i + 1), by omega, rfl, hlt, p'⟩, fun x H' y => ?_⟩
  obtain ⟨e, y⟩ := y
  subst e y
  exact hs i σ _ hlt p
 ·have e : i = n := by omega
  subst e
  exact .inl ⟨Nat.le_refl _, hd σ H p⟩
end L2
namespace L2
open PySem PySem.Spec PyProof.Rows
abbrev R2 := V → V → Hp → VK → Prop
def OpR (X : Cx) (f : Value → Value → Sem Value) (r : R2) : Prop :=
 ∀ (pins : List (Addr × Obj)) (s : Shared) (σ : St) (H : Hp) (x y : V) (v u : Value) (Q : VK), Inv X pins σ H s → RelV x v → RelV y u → r x y H Q →
  wpAny (model X.prog X.w) X.A (f v u) (EP X pins σ Q) X.xe s
def UnR (X : Cx) (f : Value → Sem Value) (r : V → Hp → VK → Prop) : Prop :=
 ∀ (pins : List (Addr × Obj)) (s : Shared) (σ : St) (H : Hp) (x : V) (v : Value) (Q : VK), Inv X pins σ H s → RelV x v → r x H Q →
  wpAny (model X.prog X.w) X.A (f v) (EP X pins σ Q) X.xe s
def CA (X : Cx) (f : Value) (r : List V → Hp → VK → Prop) : Prop :=
 ∀ (pins : List (Addr × Obj)) (s : Shared) (σ : St) (H : Hp) (xs : List V) (us : List Value) (Q : VK), Inv X pins σ H s → Au xs us → r xs H Q →
  wpAny (model X.prog X.w) X.A (call f us) (EP X pins σ Q) X.xe s
def tOp (r : R2) (ta tb : TE) : TE := fun σ H Q => ta σ H fun x H1 => tb σ H1 fun y H2 => r x y H2 Q
def tUn (r : V → Hp → VK → Prop) (ta : TE) : TE := fun σ H Q => ta σ H fun x H1 => r x H1 Q
def rI (C : Int → Int → Prop) (g : Int → Int → V) : R2 := fun x y H Q => ∃ i j, x = .int i ∧ y = .int j ∧ C i j ∧ Q (g i j) H
def rI0 (g : Int → Int → V) : R2 := fun x y H Q => ∃ i j, x = .int i ∧ y = .int j ∧ Q (g i j) H
def rU (g : Int → V) : V → Hp → VK → Prop := fun x H Q => ∃ i, x = .int i ∧ Q (g i) H
section
variable {X : Cx} {a b c : Expr} {ta tb tc : TE} {pos : Pos}
theorem VE (ha : PE X a ta) (hb : PE X b tb) {pins : List (Addr × Obj)} {s : Shared} {σ : St} {H : Hp} {R : V → V → Hp → Prop} (I : Inv X pins σ H s)
  (h : ta σ H fun x H1 => tb σ H1 fun y H2 => R x y H2) {Q : Value → Shared → Prop} {f : Value → Value → Sem Value}
  (hf : ∀ v u s2 x y H2, Inv X pins σ H2 s2 → RelV x v → RelV y u → R x y H2 → wpAny (model X.prog X.w) X.A (f v u) Q X.xe s2) :
  wpAny (model X.prog X.w) X.A (eval a X.env) (fun v s₁ => wpAny (model X.prog X.w) X.A (eval b X.env) (fun u s₂ => wpAny (model X.prog X.w) X.A (f v u) Q X.xe s₂) X.xe s₁) X.xe s := by
 refine thn (ha pins s σ H _ I h) fun v s1 ⟨x, H1, I1, r1, q1⟩ => ?_
 refine thn (hb pins s1 σ H1 _ I1 q1) fun u s2 ⟨y, H2, I2, r2, q2⟩ => ?_
 exact hf v u s2 x y H2 I2 r1 r2 q2
theorem AF {op : Operator} {r : R2} (ho : OpR X (binaryOp op) r) (ha : PE X a ta) (hb : PE X b tb) : PE X (.BinOp a op b pos) (tOp r ta tb) := by
 intro pins s σ H Q I h
 exact wpAny_BinOp (VE ha hb I h fun v u s2 x y H2 I2 rx ry q => ho pins s2 σ H2 x y v u Q I2 rx ry q)
theorem F7 {op : UnaryOp} {r : V → Hp → VK → Prop} (ho : UnR X (unaryOp op) r) (ha : PE X a ta) : PE X (.UnaryOp op a pos) (tUn r ta) := by
 intro pins s σ H Q I h
 exact UnaryOp_ (thn (ha pins s σ H _ I h) fun v s1 ⟨x, H1, I1, r1, q1⟩ => ho pins s1 σ H1 x v Q I1 r1 q1)
theorem opI {f : Value → Value → Sem Value} {C : Int → Int → Prop} {g : Int → Int → Int}
  (rule : ∀ (i j : Int) (t u : Tok) (s : Shared) (Q : Value → Shared → Prop) (E : Value → Shared → Prop), C i j → Q (.int (g i j) s.toks) { s with toks := s.toks + 1 } → wpAny (model X.prog X.w) X.A (f (.int i t) (.int j u)) Q E s) :
  OpR X f (rI C fun i j => .int (g i j)) := by
 intro pins s σ H x y v u Q I rx ry h
 obtain ⟨i, j, rfl, rfl, hc, q⟩ := h
 obtain ⟨t, rfl⟩ := rx
 obtain ⟨t', rfl⟩ := ry
 exact rule i j t t' s _ _ hc ⟨.int (g i j), H, I.tok _, ⟨_, rfl⟩, q⟩
theorem opI0 {f : Value → Value → Sem Value} {g : Int → Int → Int}
  (rule : ∀ (i j : Int) (t u : Tok) (s : Shared) (Q : Value → Shared → Prop) (E : Value → Shared → Prop), Q (.int (g i j) s.toks) { s with toks := s.toks + 1 } → wpAny (model X.prog X.w) X.A (f (.int i t) (.int j u)) Q E s) :
  OpR X f (rI0 fun i j => .int (g i j)) := by
 intro pins s σ H x y v u Q I rx ry h
 obtain ⟨i, j, rfl, rfl, q⟩ := h
 obtain ⟨t, rfl⟩ := rx
 obtain ⟨t', rfl⟩ := ry
 exact rule i j t t' s _ _ ⟨.int (g i j), H, I.tok _, ⟨_, rfl⟩, q⟩
theorem UY {f : Value → Value → Sem Value} {g : Int → Int → Bool}
  (rule : ∀ (i j : Int) (t u : Tok) (s : Shared) (Q : Value → Shared → Prop) (E : Value → Shared → Prop), Q (.bool (g i j)) s → wpAny (model X.prog X.w) X.A (f (.int i t) (.int j u)) Q E s) :
  OpR X f (rI0 fun i j => .bl (g i j)) := by
 intro pins s σ H x y v u Q I rx ry h
 obtain ⟨i, j, rfl, rfl, q⟩ := h
 obtain ⟨t, rfl⟩ := rx
 obtain ⟨t', rfl⟩ := ry
 exact rule i j t t' s _ _ ⟨.bl (g i j), H, I, rfl, q⟩
def Ps (i j : Int) : Prop := 0 < j ∧ j < 1073741824
def Qb (i j : Int) : Prop := 0 ≤ j ∧ j ≤ 1000000 ∧ i.natAbs < 2 ^ 64
def Np (i j : Int) : Prop := (-(2 ^ 64) < i ∧ i < 2 ^ 64) ∨ (-(2 ^ 64) < j ∧ j < 2 ^ 64)
theorem Np.ok {i j : Int} (h : Np i j) : IntMulOk i j := by
 rcases h with ⟨h1, h2⟩ | ⟨h1, h2⟩
 ·exact .of_left (intBits_le_64 h1 h2)
 ·exact .of_right (intBits_le_64 h1 h2)
theorem Al : OpR X (binaryOp .Add) (rI0 fun i j => .int (i + j)) := opI0 fun _ _ _ _ _ _ _ q => add_int q
theorem Am : OpR X (binaryOp .Sub) (rI0 fun i j => .int (i - j)) := opI0 fun _ _ _ _ _ _ _ q => sub_int q
theorem DD : OpR X (binaryOp .Mult) (rI Np fun i j => .int (i * j)) := opI fun _ _ _ _ _ _ _ hc q => mul_int q hc.ok
theorem Br : OpR X (binaryOp .FloorDiv) (rI Ps fun i j => .int (i / j)) := opI fun i j _ _ _ _ _ hc q => by
 have h1 : (0 : Int) < j := hc.1
 have h2 : j < 1073741824 := hc.2
 exact floordiv_int (by omega) (by rw [Int.fdiv_eq_ediv_of_nonneg i (by omega)]; exact q) (.inl (PyProof.noPylong_small (by omega)))
theorem Aa : OpR X (binaryOp .Mod) (rI (fun _ j => 0 < j) fun i j => .int (i % j)) := opI fun i j _ _ _ _ _ hc q => by
 have h1 : (0 : Int) < j := hc
 exact mod_int' (by omega) (by rw [Int.fmod_eq_emod_of_nonneg i (by omega)]; exact q)
theorem Q0 : OpR X (binaryOp .Mod) (rI (fun _ j => j ≠ 0) fun i j => .int (i.fmod j)) := opI fun _ _ _ _ _ _ _ hc q => mod_int' hc q
theorem P9 : OpR X (binaryOp .Pow) (rI Qb fun i j => .int (i ^ j.toNat)) := opI fun _ _ _ _ _ _ _ hc q => pow_int_small hc.1 hc.2.1 hc.2.2 q
theorem unI {f : Value → Sem Value} {g : Int → Int}
  (rule : ∀ (i : Int) (t : Tok) (s : Shared) (Q : Value → Shared → Prop) (E : Value → Shared → Prop), Q (.int (g i) s.toks) { s with toks := s.toks + 1 } → wpAny (model X.prog X.w) X.A (f (.int i t)) Q E s) :
  UnR X f (rU fun i => .int (g i)) := by
 intro pins s σ H x v Q I rx h
 obtain ⟨i, rfl, q⟩ := h
 obtain ⟨t, rfl⟩ := rx
 exact rule i t s _ _ ⟨.int (g i), H, I.tok _, ⟨_, rfl⟩, q⟩
theorem Di : UnR X (unaryOp .USub) (rU fun i => .int (-i)) := unI fun _ _ _ _ _ q => neg_int q
end
def OZ : V → V → Bool
 | .non, .non => true | .non, .int _ => true | .int _, .non => true | .non, .bl _ => true | .bl _, .non => true | .non, .str _ => true | .str _, .non => true
 | .int _, .int _ => true | .bl _, .bl _ => true | .str _, .str _ => true | .byt _, .byt _ => true
 | .int _, .str _ => true | .str _, .int _ => true | .bl _, .str _ => true | .str _, .bl _ => true
 | _, _ => false
def rEq : R2 := fun x y H Q => OZ x y = true ∧ Q (.bl (decide (x = y))) H
def rNe : R2 := fun x y H Q => OZ x y = true ∧ Q (.bl (!decide (x = y))) H
theorem Qp {i j : Int} : decide (V.int i = V.int j) = (i == j) := by
 rw [Bool.eq_iff_iff]
 simp
theorem Sw {i j : Bool} : decide (V.bl i = V.bl j) = (i == j) := by
 rw [Bool.eq_iff_iff]
 simp
theorem RF {i j : Str} : decide (V.str i = V.str j) = (i == j) := by
 rw [Bool.eq_iff_iff]
 simp
theorem Q8 {i j : Array UInt8} : decide (V.byt i = V.byt j) = (i.toList == j.toList) := by
 rw [Bool.eq_iff_iff]
 cases i
 cases j
 simp
section
variable {X : Cx} {a b c : Expr} {ta tb tc : TE} {pos : Pos}
theorem A4 {pins : List (Addr × Obj)} {σ : St} {H : Hp} {s : Shared} {Q : VK} {k k' : Bool} (I : Inv X pins σ H s) (q : Q (.bl k) H) (e : k = k') : EP X pins σ Q (.bool k') s := by
 subst e
 exact ⟨.bl k, H, I, rfl, q⟩
theorem A5 : OpR X (compareOp .Eq) rEq := by
 intro pins s σ H x y v u Q I rx ry h
 obtain ⟨hs, q⟩ := h
 cases x with
 | non =>
  cases rx
  cases y with
  | non => cases ry; exact PySem.EqNone.eq_none_none (A4 I q (by simp))
  | bl j => cases ry; exact PySem.EqNone.eq_none_bool (A4 I q (by simp))
  | int j => obtain ⟨t', rfl⟩ := ry; exact PySem.EqNone.eq_none_int (A4 I q (by simp))
  | str j => obtain ⟨t', rfl⟩ := ry; exact PySem.EqNone.eq_none_str (A4 I q (by simp))
  | _ => exact absurd (show false = true from hs) Bool.false_ne_true
 | bl i =>
  cases rx
  cases y with
  | non => cases ry; exact PySem.EqNone.eq_bool_none (A4 I q (by simp))
  | bl j => cases ry; exact eq_bool (A4 I q Sw)
  | str j => obtain ⟨t', rfl⟩ := ry; exact PySem.EqMixed.eq_bool_str (A4 I q (by simp))
  | _ => exact absurd (show false = true from hs) Bool.false_ne_true
 | int i =>
  obtain ⟨t, rfl⟩ := rx
  cases y with
  | non => cases ry; exact PySem.EqNone.eq_int_none (A4 I q (by simp))
  | int j => obtain ⟨t', rfl⟩ := ry; exact eq_int (A4 I q Qp)
  | str j => obtain ⟨t', rfl⟩ := ry; exact PySem.EqMixed.eq_int_str (A4 I q (by simp))
  | _ => exact absurd (show false = true from hs) Bool.false_ne_true
 | str i =>
  obtain ⟨t, rfl⟩ := rx
  cases y with
  | non => cases ry; exact PySem.EqNone.eq_str_none (A4 I q (by simp))
  | bl j => cases ry; exact PySem.EqMixed.eq_str_bool (A4 I q (by simp))
  | int j => obtain ⟨t', rfl⟩ := ry; exact PySem.EqMixed.eq_str_int (A4 I q (by simp))
  | str j => obtain ⟨t', rfl⟩ := ry; exact eq_str (A4 I q RF)
  | _ => exact absurd (show false = true from hs) Bool.false_ne_true
 | byt i =>
  obtain ⟨t, rfl⟩ := rx
  cases y with
  | byt j => obtain ⟨t', rfl⟩ := ry; exact PySem.W.eq_bytes (A4 I q Q8)
  | _ => exact absurd (show false = true from hs) Bool.false_ne_true
 | _ => cases y <;> exact absurd (show false = true from hs) Bool.false_ne_true
theorem EY : OpR X (compareOp .NotEq) rNe := by
 intro pins s σ H x y v u Q I rx ry h
 obtain ⟨hs, q⟩ := h
 cases x with
 | non =>
  cases rx
  cases y with
  | non => cases ry; exact PySem.EqNone.ne_none_none (A4 I q (by simp))
  | bl j => cases ry; exact PySem.EqNone.ne_none_bool (A4 I q (by simp))
  | int j => obtain ⟨t', rfl⟩ := ry; exact PySem.EqNone.ne_none_int (A4 I q (by simp))
  | str j => obtain ⟨t', rfl⟩ := ry; exact PySem.EqNone.ne_none_str (A4 I q (by simp))
  | _ => exact absurd (show false = true from hs) Bool.false_ne_true
 | bl i =>
  cases rx
  cases y with
  | non => cases ry; exact PySem.EqNone.ne_bool_none (A4 I q (by simp))
  | bl j => cases ry; exact ne_bool (A4 I q (congrArg not Sw))
  | str j => obtain ⟨t', rfl⟩ := ry; exact PySem.EqMixed.ne_bool_str (A4 I q (by simp))
  | _ => exact absurd (show false = true from hs) Bool.false_ne_true
 | int i =>
  obtain ⟨t, rfl⟩ := rx
  cases y with
  | non => cases ry; exact PySem.EqNone.ne_int_none (A4 I q (by simp))
  | int j => obtain ⟨t', rfl⟩ := ry; exact ne_int (A4 I q (congrArg not Qp))
  | str j => obtain ⟨t', rfl⟩ := ry; exact PySem.EqMixed.ne_int_str (A4 I q (by simp))
  | _ => exact absurd (show false = true from hs) Bool.false_ne_true
 | str i =>
  obtain ⟨t, rfl⟩ := rx
  cases y with
  | non => cases ry; exact PySem.EqNone.ne_str_none (A4 I q (by simp))
  | bl j => cases ry; exact PySem.EqMixed.ne_str_bool (A4 I q (by simp))
  | int j => obtain ⟨t', rfl⟩ := ry; exact PySem.EqMixed.ne_str_int (A4 I q (by simp))
  | str j => obtain ⟨t', rfl⟩ := ry; exact ne_str (A4 I q (congrArg not RF))
  | _ => exact absurd (show false = true from hs) Bool.false_ne_true
 | byt i =>
  obtain ⟨t, rfl⟩ := rx
  cases y with
  | byt j => obtain ⟨t', rfl⟩ := ry; exact PySem.W.ne_bytes (A4 I q (congrArg not Q8))
  | _ => exact absurd (show false = true from hs) Bool.false_ne_true
 | _ => cases y <;> exact absurd (show false = true from hs) Bool.false_ne_true
theorem Hz : OpR X (compareOp .Lt) (rI0 fun i j => .bl (decide (i < j))) := UY fun _ _ _ _ _ _ _ q => lt_int q
theorem NM : OpR X (compareOp .LtE) (rI0 fun i j => .bl (decide (i ≤ j))) := UY fun _ _ _ _ _ _ _ q => le_int q
theorem GB : OpR X (compareOp .Gt) (rI0 fun i j => .bl (decide (j < i))) := UY fun _ _ _ _ _ _ _ q => gt_int q
theorem Qo : OpR X (compareOp .GtE) (rI0 fun i j => .bl (decide (j ≤ i))) := UY fun _ _ _ _ _ _ _ q => ge_int q
theorem Xf : OpR X (compareOp .Is) (fun x y H Q => y = .non ∧ Q (.bl (decide (x = .non))) H) := by
 intro pins s σ H x y v u Q I rx ry h
 obtain ⟨rfl, q⟩ := h
 cases ry
 refine is_none_gen (A4 I q ?_)
 cases x <;> first
  | (cases rx; rfl)
  | (obtain ⟨t, rfl⟩ := rx; rfl)
theorem AS (b : Expr) {op : CmpOp} (h : op ≠ .In := by decide) (h2 : op ≠ .NotIn := by decide) : behindInMarks op b = false := by
 have e1 : (op == CmpOp.In) = false := by cases op <;> first | rfl | exact absurd rfl h
 have e2 : (op == CmpOp.NotIn) = false := by cases op <;> first | rfl | exact absurd rfl h2
 cases b <;> simp [behindInMarks, e1, e2]
theorem BY {op : CmpOp} {r : R2} (ho : OpR X (compareOp op) r) (ha : PE X a ta) (hb : PE X b tb) (hm : behindInMarks op b = false) : PE X (.Compare a [op] [b] pos) (tOp r ta tb) := by
 intro pins s σ H Q I h
 exact wpAny_Compare1 (VE ha hb I h fun v u s2 x y H2 I2 rx ry q => ho pins s2 σ H2 x y v u Q I2 rx ry q) hm
def Hf (t : TE) : TT := fun σ H Q => t σ H fun x H' => ∃ k, x = .bl k ∧ Q k H'
theorem AQ {op : CmpOp} {r : R2} (ho : OpR X (compareOp op) r) (ha : PE X a ta) (hb : PE X b tb) (hm : behindInMarks op b = false) : PT X (.Compare a [op] [b] pos) (Hf (tOp r ta tb)) := by
 intro pins s σ H Q I h
 refine wpAny_isTrue_Compare1 (thn (ha pins s σ H _ I h) fun v s1 ⟨x, H1, I1, r1, q1⟩ => thn (hb pins s1 σ H1 _ I1 q1) fun u s2 ⟨y, H2, I2, r2, q2⟩ =>
  thn (ho pins s2 σ H2 x y v u _ I2 r1 r2 q2) fun c s3 ⟨z, H3, I3, r3, k, e, q3⟩ => ?_) hm
 subst e
 cases r3
 exact wpAny_truthy_bool ⟨H3, I3, q3⟩
theorem LI : (sizeLine : Nat) < 2 ^ 63 := by rw [sizeLine_eq]; decide
theorem vals1 {x : V} {us : List Value} (r : Au [x] us) : ∃ u, us = [u] ∧ RelV x u := by
 cases r with
 | cons r1 r2 => cases r2; exact ⟨_, rfl, r1⟩
theorem vals2 {x y : V} {us : List Value} (r : Au [x, y] us) : ∃ u w', us = [u, w'] ∧ RelV x u ∧ RelV y w' := by
 cases r with
 | cons r1 r2 =>
  cases r2 with
  | cons r3 r4 => cases r4; exact ⟨_, _, rfl, r1, r3⟩
theorem ED : CA X (.builtin "abs") (fun xs H Q => ∃ i, xs = [.int i] ∧ Q (.int (if i < 0 then -i else i)) H) := by
 intro pins s σ H xs us Q I r h
 obtain ⟨i, rfl, q⟩ := h
 obtain ⟨u, rfl, t, rfl⟩ := vals1 r
 exact call_abs_int fun u tk => ⟨.int (if i < 0 then -i else i), H, I.tok _, ⟨_, rfl⟩, q⟩
theorem Jw (hc : X.calm = true) : CA X (.builtin "max") (fun xs H Q => ∃ i j, xs = [.int i, .int j] ∧ Q (.int (if j > i then j else i)) H) := by
 intro pins s σ H xs us Q I r h
 obtain ⟨i, j, rfl, q⟩ := h
 obtain ⟨u, w', rfl, ⟨t, rfl⟩, ⟨t', rfl⟩⟩ := vals2 r
 refine max_two_ints (I.ok.hd hc) fun h' tk k => ⟨_, H, I.kept k, ?_, q⟩
 by_cases hj : j > i
 ·rw [if_pos hj, if_pos hj]; exact ⟨_, rfl⟩
 ·rw [if_neg hj, if_neg hj]; exact ⟨_, rfl⟩
theorem NE (hc : X.calm = true) : CA X (.builtin "min") (fun xs H Q => ∃ i j, xs = [.int i, .int j] ∧ Q (.int (if j < i then j else i)) H) := by
 intro pins s σ H xs us Q I r h
 obtain ⟨i, j, rfl, q⟩ := h
 obtain ⟨u, w', rfl, ⟨t, rfl⟩, ⟨t', rfl⟩⟩ := vals2 r
 refine min_two_ints (I.ok.hd hc) fun h' tk k => ⟨_, H, I.kept k, ?_, q⟩
 by_cases hj : j < i
 ·rw [if_pos hj, if_pos hj]; exact ⟨_, rfl⟩
 ·rw [if_neg hj, if_neg hj]; exact ⟨_, rfl⟩
theorem SA : CA X (.type "int") (fun xs H Q => (∃ i, xs = [.int i] ∧ Q (.int i) H) ∨ ∃ k, xs = [.bl k] ∧ Q (.int (if k then 1 else 0)) H) := by
 intro pins s σ H xs us Q I r h
 rcases h with ⟨i, rfl, q⟩ | ⟨k, rfl, q⟩
 ·obtain ⟨u, rfl, t, rfl⟩ := vals1 r
  exact call_int_int ⟨.int i, H, I, ⟨_, rfl⟩, q⟩
 ·obtain ⟨u, rfl, r1⟩ := vals1 r
  cases r1
  exact call_int_bool ⟨.int (if k then 1 else 0), H, I.tok _, ⟨_, rfl⟩, q⟩
end
end L2
namespace L2
open PySem PySem.Spec PyProof.Rows
structure QD (h : Heap) (x dx C : Addr) (mA : Str → Option Value) : Prop where
 obj : h.get? x = some (PySem.W.instObj C dx)
 ns : h.Ns1 dx mA
 ne : dx ≠ x
theorem RP {h : Heap} {dx : Addr} {mA : Str → Option Value} (n : h.Ns1 dx mA) : ∃ od, h.get? dx = some od ∧ ∀ name, PySem.W.lookIn name od = some (mA name) := by
 obtain ⟨o, es, ep, ho, hd, hk, _, hm⟩ := n
 refine ⟨o, ho, fun name => ?_⟩
 have e := hm name
 unfold nsFind findBy at e
 rw [← Array.find?_toList] at e
 unfold PySem.W.lookIn
 rw [hd]
 dsimp only
 split
 ·rename_i y q
  rw [q] at e
  exact congrArg some e
 ·rename_i q
  rw [q] at e
  have a : es.toList.any (·.refKey) = false := by
   rw [List.any_eq_false]
   intro y hy
   obtain ⟨z, t, hkey⟩ := hk y (Array.mem_toList_iff.mp hy)
   simp [DictEntry.refKey, hkey]
  have a' : ¬ es.toList.any (·.refKey) = true := by rw [a]; exact Bool.false_ne_true
  rw [if_neg a']
  exact congrArg some e
theorem QD.look {h : Heap} {x dx C : Addr} {mA : Str → Option Value} (I : QD h x dx C mA) : ∃ od, PySem.W.InstAt h x (PySem.W.instObj C dx) C (some od) ∧ ∀ name, PySem.W.lookIn name od = some (mA name) :=
 let ⟨od, ho, hl⟩ := RP I.ns
 ⟨od, ⟨I.obj, rfl, rfl, ho⟩, hl⟩
section
variable {prog : Program} {w : World} {A : Around} {E : Value → Shared → Prop} {s : Shared} {K : PySem.W.Frag} {x dx C f : Addr} {mA : Str → Option Value} {name : Str} {v : Value}
theorem Tu {expr : Bool} {Q : Value → Shared → Prop} (X : K.In s.heap) (I : QD s.heap x dx C mA) (hg : PySem.W.plainGet K C name = true) (hh : PySem.W.hasDictIn K C = true)
  (ha : PySem.W.findIn K (.ref C) name = some none) (hv : mA name = some v) (hv' : PySem.W.handedIn v = true) (h : Q v { s with toks := s.toks + 1 }) :
  wpAny (model prog w) A (getAttr (.ref x) name expr) Q E s := by
 obtain ⟨od, J, hl⟩ := I.look
 exact PySem.W.get_value X J (PySem.W.plainGet_of hg).1 (PySem.W.findObj_own hh ha rfl (by rw [hl, hv])) hv' h
theorem Ss {pl : Sem Bool} {Q : Value × List Value → Shared → Prop} (X : K.In s.heap) (I : QD s.heap x dx C mA) (hg : PySem.W.plainGet K C name = true)
  (hf : PySem.W.findIn K (.ref C) name = some (some (.ref f))) (ht : PySem.W.isFn K (.ref f) = true) (hv : mA name = none) (h : Q (.ref f, [.ref x]) s) :
  wpAny (model prog w) A (getMethod (.ref x) name pl) Q E s := by
 obtain ⟨od, J, hl⟩ := I.look
 exact PySem.W.method_fn X J (PySem.W.plainGet_of hg).1 (PySem.W.plainGet_of hg).2 hf (beq_iff_eq.mp ht) (by show (PySem.W.lookIn name od).map (·.isSome) = some false; rw [hl, hv]; rfl) h
theorem T2 {ns : List Str} {Q : Unit → Shared → Prop} (X : K.In s.heap) (I : QD s.heap x dx C mA)
  (hs : PySem.W.findIn K (.ref C) "__setattr__" = some (some (.builtin "object.__setattr__"))) (hp : PySem.W.plainOver K C = true) (ht : PySem.W.takerIn K C name = some none) (hh : PySem.W.hasDictIn K C = true)
  (hw : PySem.Within mA ns) (hsz : ns.length ≤ sizeLine)
  (h : ∀ h', QD h' x dx C (fun y => if y = name then some v else mA y) → Heap.SameBut dx s.heap h' → Q () { s with heap := h', toks := s.toks + 2 }) :
  wpAny (model prog w) A (setAttr (.ref x) name v) Q E s := by
 obtain ⟨od, J, hl⟩ := I.look
 refine PySem.W.set_plain X J hs (PySem.W.osa_open (s := { s with toks := s.toks + 1 }) (r := none) X J hp ht fun b => ?_)
 obtain ⟨cd, hc, hd'⟩ := PySem.W.any_some hh
 have hx : s.heap.get? x = some ⟨.ref C, some dx, .plain, #[]⟩ := I.obj
 refine wpAny_bind (wpAny_pure (wpAny_bind (wpAny_bind (wpAny_loadPart hx (wpAny_bind (PySem.W.Looks.here (s := { s with toks := s.toks + 1 }) (PySem.W.looks_clsIn X hc) ?_))))))
 rw [hd']
 refine wpAny_pure (a := some dx) (wpAny_bind (wpAny_pure (wpAny_bind ?_)))
 refine wpAny_nsSet1 (s := { s with toks := s.toks + 1 }) I.ns fun h' hn2 hs2 => ?_
 obtain ⟨oD, esD, epD, hoD, hdD, hcD⟩ := hn2.count (PySem.Within.cons name v hw)
 refine wpAny_bind (wpAny_lookBehind hoD (by rw [hdD]; exact pastItsLine_dict (Nat.le_trans hcD (by rw [List.length_cons]; omega))) ?_)
 exact wpAny_pure (h _ ⟨(hs2.2 _ (Ne.symm I.ne)).trans I.obj, hn2, I.ne⟩ hs2)
theorem Sg {R : Result → Shared → Prop} {vs : List Value} {kw : List (Str × Value)} (X : K.In s.heap) (hm : PySem.W.makesIn K C = true)
  (hi : PySem.W.findIn K (.ref C) "__init__" = some (some (.ref f))) (hf : PySem.W.typeIn K (.ref f) = some (.type "function"))
  (h : codeAny (model prog w) (A.under (.builtin "type.__call__" ⟨.ref C :: vs, kw⟩)) (.call (.ref f) ⟨.ref (s.heap.objs.size + 1) :: vs, kw⟩) (PySem.W.InitBack (s.heap.objs.size + 1) R)
   { s with heap := (s.heap.push PySem.W.emptyDict).push (PySem.W.instObj C s.heap.objs.size) }) :
  codeAny (model prog w) A (.call (.ref C) ⟨vs, kw⟩) R s := by
 obtain ⟨hh, g, d, t, os⟩ := s
 exact PySem.W.make_core (PySem.W.makes_of X hm) (PySem.W.looks_findIn X hi) (fun self => PySem.W.bind_fn X self hf) (.inl rfl) h
end
def HE (f : Str) (v : V) : List (Str × V) → List (Str × V)
 | [] => [(f, v)]
 | (g, x) :: r => if g = f then (g, v) :: r else (g, x) :: HE f v r
theorem Ka (f g : Str) (v : V) : ∀ fs : List (Str × V), (HE f v fs).lookup g = if g = f then some v else fs.lookup g
 | [] => by
  show List.lookup g [(f, v)] = _
  by_cases h : g = f
  ·have hb : (g == f) = true := beq_iff_eq.mpr h
   simp only [List.lookup, hb, if_pos h]
  ·have hb : (g == f) = false := beq_eq_false_iff_ne.mpr h
   simp only [List.lookup, hb, if_neg h]
 | (k, x) :: r => by
  have ih := Ka f g v r
  rw [show HE f v ((k, x) :: r) = (if k = f then (k, v) :: r else (k, x) :: HE f v r) from rfl]
  by_cases hk : k = f
  ·rw [if_pos hk]
   by_cases h : g = k
   ·have hb : (g == k) = true := beq_iff_eq.mpr h
    simp only [List.lookup, hb, if_pos (h.trans hk)]
   ·have hb : (g == k) = false := beq_eq_false_iff_ne.mpr h
    simp only [List.lookup, hb, if_neg (fun e : g = f => h (e.trans hk.symm))]
  ·rw [if_neg hk]
   by_cases h : g = k
   ·have hb : (g == k) = true := beq_iff_eq.mpr h
    simp only [List.lookup, hb, if_neg (fun e : g = f => hk (h.symm.trans e))]
   ·have hb : (g == k) = false := beq_eq_false_iff_ne.mpr h
    simp only [List.lookup, hb]
    exact ih
theorem KL (f : Str) (v : V) : ∀ fs : List (Str × V), f ∈ (HE f v fs).map (·.1) ∧ ∀ g, g ∈ fs.map (·.1) → g ∈ (HE f v fs).map (·.1)
 | [] => ⟨by simp [HE], fun g h => by simp at h⟩
 | (k, x) :: r => by
  obtain ⟨i1, i2⟩ := KL f v r
  rw [show HE f v ((k, x) :: r) = (if k = f then (k, v) :: r else (k, x) :: HE f v r) from rfl]
  by_cases hk : k = f
  ·rw [if_pos hk]
   subst hk
   exact ⟨by simp, fun g h => by simpa using h⟩
  ·rw [if_neg hk]
   refine ⟨?_, fun g h => ?_⟩
   ·rw [List.map_cons]
    exact List.mem_cons_of_mem _ i1
   ·rw [List.map_cons] at h ⊢
    rcases List.mem_cons.mp h with e | e
    ·exact List.mem_cons.mpr (.inl e)
    ·exact List.mem_cons_of_mem _ (i2 g e)
theorem KW (f : Str) (v : V) : ∀ fs : List (Str × V), (HE f v fs).length ≤ fs.length + 1
 | [] => by simp [HE]
 | (k, x) :: r => by
  have ih := KW f v r
  rw [show HE f v ((k, x) :: r) = (if k = f then (k, v) :: r else (k, x) :: HE f v r) from rfl]
  by_cases hk : k = f
  ·rw [if_pos hk, List.length_cons, List.length_cons]; omega
  ·rw [if_neg hk, List.length_cons, List.length_cons]; omega
theorem Fk.some_of {v : V} {o : Option Value} (r : Fk (some v) o) : ∃ u, o = some u ∧ RelV v u := by
 cases o with
 | none => exact (show False from r).elim
 | some u => exact ⟨u, rfl, r⟩
theorem Fk.none_of {o : Option Value} (r : Fk none o) : o = none := by
 cases o with
 | none => rfl
 | some u => exact (show False from r).elim
theorem SC {v : V} {u : Value} (r : RelV v u) : PySem.W.handedIn u = true := by
 cases v with
 | non => cases (show u = Value.none from r); rfl
 | bl b => cases (show u = Value.bool b from r); rfl
 | int i => obtain ⟨t, e⟩ := (show ∃ t, u = Value.int i t from r); cases e; rfl
 | str x => obtain ⟨t, e⟩ := (show ∃ t, u = Value.str x t from r); cases e; rfl
 | byt b => obtain ⟨t, e⟩ := (show ∃ t, u = Value.bytes b t from r); cases e; rfl
 | flt b => obtain ⟨t, e⟩ := (show ∃ t, u = Value.float b t from r); cases e; rfl
 | ref a => cases (show u = Value.ref a from r); rfl
 | ty n => cases (show u = Value.type n from r); rfl
section
variable {P : Program} {w : World} {H H' : Hp} {h h' : Heap} {a C dx : Addr} {fs fs' : List (Str × V)}
theorem Kz (hok : HOk P w H h) (e : H a = some (.ins C dx fs)) : ∃ mA, QD h a dx C mA ∧ (∀ f, Fk (fs.lookup f) (mA f)) ∧ PySem.Within mA (fs.map (·.1)) ∧ fs.length ≤ 1000 ∧ H dx = some (.own a) := by
 obtain ⟨d, z, ne, ob, mA, n, r, q⟩ := (show BZ P w H h a (.ins C dx fs) from hok a _ e)
 exact ⟨mA, ⟨ob, n, ne⟩, r, q, z, d⟩
end
structure Cls (K : PySem.W.Frag) (C : Addr) : Prop where
 pg : PySem.W.plainGet K C Str.empty = true
 hd : PySem.W.hasDictIn K C = true
 po : PySem.W.plainOver K C = true
 sa : PySem.W.findIn K (.ref C) "__setattr__" = some (some (.builtin "object.__setattr__"))
theorem Cls.get {K : PySem.W.Frag} {C : Addr} (c : Cls K C) (f : Str) : PySem.W.plainGet K C f = true := c.pg
def Ge (K : PySem.W.Frag) (C : Addr) (f : Str) : Prop := PySem.W.findIn K (.ref C) f = some none
theorem Ge.taker {K : PySem.W.Frag} {C : Addr} {f : Str} (n : Ge K C f) : PySem.W.takerIn K C f = some none := by
 unfold PySem.W.takerIn
 rw [show PySem.W.findIn K (.ref C) f = some none from n]
 rfl
structure RM (K : PySem.W.Frag) (C : Addr) (m : Str) (f : Addr) : Prop where
 at_ : PySem.W.findIn K (.ref C) m = some (some (.ref f))
 fn : PySem.W.isFn K (.ref f) = true
 kp : PySem.W.keepIn K (.ref f) = true
section
variable {X : Cx} {pins : List (Addr × Obj)} {σ : St} {H : Hp} {s : Shared} {a C dx : Addr} {fs : List (Str × V)} {f : Str} {v : V} {A : Around} {E : Value → Shared → Prop}
theorem QG {b : Bool} {Q : Value → Shared → Prop} (I : Inv X pins σ H s) (e : H a = some (.ins C dx fs)) (c : Cls X.K C) (n : Ge X.K C f) (l : fs.lookup f = some v)
  (h : ∀ u s', Inv X pins σ H s' → RelV v u → Q u s') : wpAny (model X.prog X.w) A (getAttr (.ref a) f b) Q E s := by
 obtain ⟨mA, O, r, _, _, _⟩ := Kz I.hok e
 obtain ⟨u, hu, ru⟩ := Fk.some_of (v := v) (o := mA f) (by rw [← l]; exact r f)
 exact Tu I.kIn O (c.get f) c.hd n hu (SC ru) (h u _ (I.tok _) ru)
theorem IN {m : Str} {g : Addr} {pl : Sem Bool} {Q : Value × List Value → Shared → Prop} (I : Inv X pins σ H s) (e : H a = some (.ins C dx fs)) (c : Cls X.K C) (k : RM X.K C m g) (l : fs.lookup m = none)
  (h : Q (.ref g, [.ref a]) s) : wpAny (model X.prog X.w) A (getMethod (.ref a) m pl) Q E s := by
 obtain ⟨mA, O, r, _, _, _⟩ := Kz I.hok e
 have hn : mA m = none := Fk.none_of (by rw [← l]; exact r m)
 exact Ss I.kIn O (c.get m) k.at_ k.fn hn h
theorem Px {y : V} {u : Value} {Q : Unit → Shared → Prop} (I : Inv X pins σ H s) (e : H a = some (.ins C dx fs)) (c : Cls X.K C) (n : Ge X.K C f) (hl : fs.length < 1000) (ry : RelV y u)
  (h : ∀ s', Inv X pins σ (upd H a (.ins C dx (HE f y fs))) s' → Q () s') : wpAny (model X.prog X.w) A (setAttr (.ref a) f u) Q E s := by
 obtain ⟨mA, O, r, wi, _, ho⟩ := Kz I.hok e
 have hz : (fs.map (·.1)).length ≤ sizeLine := by rw [List.length_map, sizeLine_eq]; omega
 refine T2 I.kIn O c.sa c.po n.taker c.hd wi hz fun h' O' sb => h _ ?_
 have hd : ∃ o, h'.get? dx = some o := let ⟨o, _, _, e', _⟩ := O'.ns; ⟨o, e'⟩
 refine I.write (x := a) (e := dx) (by rw [e]; exact True.intro) (.inr ho) (fun b q hb z => (sb.2 b hb).trans z) hd ?_
 refine ⟨by rw [AK O.ne]; exact ho, ?_, O.ne, O'.obj, _, O'.ns, fun g => ?_, fun g hg => ?_⟩
 ·have := KW f y fs; omega
 ·show Fk ((HE f y fs).lookup g) (if g = f then some u else mA g)
  rw [Ka]
  by_cases q : g = f
  ·rw [if_pos q, if_pos q]; exact ry
  ·rw [if_neg q, if_neg q]; exact r g
 ·by_cases q : g = f
  ·rw [q]; exact (KL f y fs).1
  ·refine (KL f y fs).2 g (wi g fun z => hg ?_)
   show (if g = f then some u else mA g) = none
   rw [if_neg q]; exact z
theorem Inv.made (I : Inv X pins σ H s) : Inv X pins σ (upd (upd H s.heap.objs.size (.own (s.heap.objs.size + 1))) (s.heap.objs.size + 1) (.ins C s.heap.objs.size []))
  { s with heap := (s.heap.push PySem.W.emptyDict).push (PySem.W.instObj C s.heap.objs.size) } := by
 have e1 : (s.heap.push PySem.W.emptyDict).get? s.heap.objs.size = some PySem.W.emptyDict := Heap.get?_push_size s.heap rfl
 have e2 : ((s.heap.push PySem.W.emptyDict).push (PySem.W.instObj C s.heap.objs.size)).get? (s.heap.objs.size + 1) = some (PySem.W.instObj C s.heap.objs.size) := by
  have := Heap.get?_push_size (s.heap.push PySem.W.emptyDict) (o := PySem.W.instObj C s.heap.objs.size) rfl
  rwa [Heap.size_push] at this
 have e3 : (s.heap.push PySem.W.emptyDict).Ns s.heap.objs.size (fun _ => none) := ⟨PySem.W.emptyDict, #[], _, e1, rfl, (fun e he => absurd he (by simp)), fun _ => rfl⟩
 have I1 := I.laid (a := s.heap.objs.size) (o := .own (s.heap.objs.size + 1)) (h' := s.heap.push PySem.W.emptyDict) (t' := s.toks) (fun b u q => Heap.get?_push_of_some _ q) (Nat.le_refl _) ⟨_, e1⟩
 refine I1.laid (a := s.heap.objs.size + 1) (o := .ins C s.heap.objs.size []) (t' := s.toks) (fun b u q => Heap.get?_push_of_some _ q) (Nat.le_of_eq (Heap.size_push _ _)) ?_
 have ne : s.heap.objs.size ≠ s.heap.objs.size + 1 := Nat.ne_of_lt (Nat.lt_succ_self _)
 refine ⟨by rw [AK ne, AO], Nat.zero_le _, ne, e2, fun _ => none, (Heap.Ns1.of_empty e3).at fun o q => Heap.get?_push_of_some _ q, fun _ => True.intro, fun y hy => absurd rfl hy⟩
theorem UI {prog : Program} {w : World} {env : Env} {e : Expr} {f : Str} {pos : Pos} {s : Shared} {Q : Value → Shared → Prop} (hb : attributeBase e f env (eval e env) = eval e env)
  (h : wpAny (model prog w) A (eval e env) (fun o s₁ => wpAny (model prog w) A (getAttr o f true) Q E s₁) E s) : wpAny (model prog w) A (eval (.Attribute e f pos) env) Q E s :=
 Attribute_any_ h (by rw [arm_eval_Attribute, hb])
end
def MN (K : PySem.W.Frag) (ta : TE) (f : Str) : TE := fun σ H Q => ta σ H fun x H1 => ∃ a C dx fs v, x = .ref a ∧ H1 a = some (.ins C dx fs) ∧ Cls K C ∧ Ge K C f ∧ fs.lookup f = some v ∧ Q v H1
def MH (K : PySem.W.Frag) (ta tv : TE) (f : Str) : TS := fun D σ H => tv σ H fun y H1 => ta σ H1 fun x H2 => ∃ a C dx fs, x = .ref a ∧ H2 a = some (.ins C dx fs) ∧ Cls K C ∧ Ge K C f ∧ fs.length < 1000 ∧
 D.nx σ (upd H2 a (.ins C dx (HE f y fs)))
section
variable {X : Cx} {o e value : Expr} {f : Str} {pos pos' tpos : Pos} {ta tv : TE}
theorem CB (he : PE X e ta) (hb : attributeBase e f X.env (eval e X.env) = eval e X.env) : PE X (.Attribute e f pos) (MN X.K ta f) := by
 intro pins s σ H Q I h
 refine UI hb (thn (he pins s σ H _ I h) fun u s1 ⟨x, H1, I1, rx, a, C, dx, fs, v, ex, ea, c, n, l, q⟩ => ?_)
 subst ex
 obtain rfl : u = Value.ref a := rx
 exact QG I1 ea c n l fun u' s2 I2 ru => ⟨v, H1, I2, ru, q⟩
theorem LP (ha : PE X o ta) (hv : PE X value tv) (hs : swapsWith value (some (.Attribute o f pos')) pos.line X.env = pure false) : PS X (.Assign [.Attribute o f pos'] value pos) (MH X.K ta tv f) := by
 intro pins s σ H D I h
 refine plainObj_wpAny_Assign_Attribute (thn (hv pins s σ H _ I h) fun u s1 ⟨y, H1, I1, ry, q⟩ => thn (ha pins s1 σ H1 _ I1 q) fun ov s2 ⟨x, H2, I2, rx, a, C, dx, fs, ex, ea, c, n, l, q2⟩ => ?_) hs
 subst ex
 obtain rfl : ov = Value.ref a := rx
 exact Px I2 ea c n l ry fun s3 I3 => ⟨σ, _, I3, q2⟩
end
section
variable {X : Cx} {pins : List (Addr × Obj)} {σ : St} {H : Hp} {s : Shared} {A : Around} {E : Value → Shared → Prop} {Q : Value → Shared → Prop} {c : Value} {b : Bool}
inductive Gg (K : PySem.W.Frag) (H : Hp) : V → Value → Prop where
 | non : Gg K H .non (.type "NoneType")
 | bl (x : Bool) : Gg K H (.bl x) (.type "bool")
 | int (i : Int) : Gg K H (.int i) (.type "int")
 | str (x : Str) : Gg K H (.str x) (.type "str")
 | flt (x : UInt64) : Gg K H (.flt x) (.type "float")
 | lst {a : Addr} {xs : List V} (e : H a = some (.lst xs)) : Gg K H (.ref a) (.type "list")
 | frz {a : Addr} {o : Obj} {xs : List V} (e : H a = some (.frz o (.lst xs))) : Gg K H (.ref a) (.type "list")
 | tup {a : Addr} {xs : List V} (e : H a = some (.tup xs)) : Gg K H (.ref a) (.type "tuple")
 | dK {a : Addr} {kvs : List (Key × V)} (e : H a = some (.dK kvs)) : Gg K H (.ref a) (.type "dict")
 | dT {a : Addr} {kvs : List (List Key × V)} (e : H a = some (.dT kvs)) : Gg K H (.ref a) (.type "dict")
 | ins {a C dx : Addr} {fs : List (Str × V)} (e : H a = some (.ins C dx fs)) (cl : Cls K C) (ha : PySem.W.findIn K (.ref C) "__class__" = some (some (.builtin "object.__class__")))
   (hn : PySem.W.specialIn K (.builtin "object.__class__") "__get__" = some (some (.builtin "getset_descriptor.__get__"))) (htk : PySem.W.takesIn K (.builtin "object.__class__") = some true)
   (hm : PySem.W.mroIn K C (.type "object") = some true) : Gg K H (.ref a) (.ref C)
theorem RJ {x : V} {u t : Value} (I : Inv X pins σ H s) (rx : RelV x u) (ty : Gg X.K H x t) (e : PySem.W.kitOne X.K t c = some b) (h : ∀ tk, Q (.bool b) { s with toks := tk }) :
  wpAny (model X.prog X.w) A (call (.builtin "isinstance") [u, c]) Q E s := by
 cases ty with
 | non => cases (show u = Value.none from rx); exact PySem.W.kia_one PySem.W.kitx_none I.kIn True.intro e (fun z => nomatch z) h
 | bl y => cases (show u = Value.bool y from rx); exact PySem.W.kia_one PySem.W.kitx_bool I.kIn True.intro e (fun z => nomatch z) h
 | int i => obtain ⟨t, q⟩ := (show ∃ t, u = Value.int i t from rx); cases q; exact PySem.W.kia_one PySem.W.kitx_int I.kIn True.intro e (fun z => nomatch z) h
 | str y => obtain ⟨t, q⟩ := (show ∃ t, u = Value.str y t from rx); cases q; exact PySem.W.kia_one PySem.W.kitx_str I.kIn True.intro e (fun z => nomatch z) h
 | flt y => obtain ⟨t, q⟩ := (show ∃ t, u = Value.float y t from rx); cases q; exact PySem.W.kia_one PySem.W.kitx_float I.kIn True.intro e (fun z => nomatch z) h
 | @lst a xs ea =>
  cases (show u = Value.ref a from rx)
  obtain ⟨_, _, n, _, h1⟩ := (show BZ X.prog X.w H s.heap a (.lst xs) from I.hok a _ ea)
  exact PySem.W.kia_one PySem.W.kitx_list I.kIn ⟨_, h1, rfl⟩ e (fun z => nomatch z) h
 | @frz a ob xs ea =>
  cases (show u = Value.ref a from rx)
  obtain ⟨_, _, _, n, _, h1⟩ := (show BZ X.prog X.w H s.heap a (.frz ob (.lst xs)) from I.hok a _ ea)
  exact PySem.W.kia_one PySem.W.kitx_list I.kIn ⟨_, h1, rfl⟩ e (fun z => nomatch z) h
 | @tup a xs ea =>
  cases (show u = Value.ref a from rx)
  obtain ⟨_, _, _, p⟩ := (show BZ X.prog X.w H s.heap a (.tup xs) from I.hok a _ ea)
  obtain ⟨o, h1, h2, _⟩ := p
  exact PySem.W.kia_one PySem.W.kitx_tuple I.kIn ⟨o, h1, h2⟩ e (fun z => nomatch z) h
 | @dK a kvs ea =>
  cases (show u = Value.ref a from rx)
  obtain ⟨_, _, vs, _, p⟩ := (show BZ X.prog X.w H s.heap a (.dK kvs) from I.hok a _ ea)
  obtain ⟨o, es, ep, h1, h2, _⟩ := p
  exact PySem.W.kia_one PySem.W.kitx_dict I.kIn ⟨o, h1, h2.1⟩ e (fun z => nomatch z) h
 | @dT a kvs ea =>
  cases (show u = Value.ref a from rx)
  obtain ⟨_, _, xs, _, o, es, ep, h1, h2, _⟩ := (show BZ X.prog X.w H s.heap a (.dT kvs) from I.hok a _ ea)
  exact PySem.W.kia_one PySem.W.kitx_dict I.kIn ⟨o, h1, h2.1⟩ e (fun z => nomatch z) h
 | @ins a C dx fs ea cl ha hn htk hm =>
  cases (show u = Value.ref a from rx)
  obtain ⟨mA, O, _⟩ := Kz I.hok ea
  obtain ⟨od, J, _⟩ := O.look
  exact PySem.W.kia_one (PySem.W.kitx_own (cl.get _) cl.hd ha hn htk hm) I.kIn J e (fun z => nomatch z) h
end
end L2
namespace L2
open PySem PySem.Spec PyProof.Rows
structure CT (k : Nat) (A : Around) : Prop where
 hd : A.handled = none
 dp : A.depth + 3 * k + 5 < recursionLimit
 un : A.units + 16 * k + 200 < cLine
theorem CT.mono {j k : Nat} {A : Around} (r : CT k A) (h : j ≤ k) : CT j A := ⟨r.hd, by have := r.dp; omega, by have := r.un; omega⟩
theorem CT.deeper {k : Nat} {A : Around} (r : CT (k + 1) A) (env : Env) : CT k (A.deeper env) :=
 ⟨r.hd, by have := r.dp; show A.depth + 1 + 3 * k + 5 < _; omega, by have := r.un; show A.units + 3 + 16 * k + 200 < _; omega⟩
theorem Qc {A : Around} {C : Addr} {us : List Value} {kw : List (Str × Value)} : (A.under (.builtin "type.__call__" ⟨.ref C :: us, kw⟩)).depth = A.depth + 1 := by
 first | rfl | simp [Around.under, Code.weight, Code.isCreation, Code.isGuard, Code.isCaller, Code.frames, Code.isFrame, guardIds]
theorem Pw {A : Around} {C : Addr} {us : List Value} {kw : List (Str × Value)} : (A.under (.builtin "type.__call__" ⟨.ref C :: us, kw⟩)).units = A.units + 1 := by
 first | rfl | simp [Around.under, Code.cUnits, Code.frames, Code.isFrame]
theorem CT.make {k : Nat} {A : Around} (r : CT (k + 1) A) (C : Addr) (us : List Value) (kw : List (Str × Value)) : CT k (A.under (.builtin "type.__call__" ⟨.ref C :: us, kw⟩)) :=
 ⟨r.hd, by have := r.dp; rw [Qc]; omega, by have := r.un; rw [Pw]; omega⟩
theorem CT.depth {k : Nat} {A : Around} (r : CT k A) : A.depth < recursionLimit := by have := r.dp; omega
theorem CT.units {k : Nat} {A : Around} (r : CT k A) : A.units + 64 < cLine := by have := r.un; omega
def Kq : TA := fun _ H Q => Q [] H
def Hq (ta : TE) (tr : TA) : TA := fun σ H Q => ta σ H fun x H1 => tr σ H1 fun xs H2 => Q (x :: xs) H2
section
variable {X : Cx} {e : Expr} {es : List Expr} {te : TE} {t : TA} {pos : Pos}
theorem AD : PA X [] Kq := fun _ _ _ _ H Q I h => Calls.spliced_nil ⟨[], H, I, .nil, h⟩
theorem AA (ha : PE X e te) (hr : PA X es t) (hs : starEach (e :: es) X.env = (false, eval e X.env) :: starEach es X.env := by rfl) : PA X (e :: es) (Hq te t) := by
 intro pos pins s σ H Q I h
 rw [hs]
 show wpAny _ _ (spliced ((false, eval e X.env) :: backTo pos (starEach es X.env))) _ _ s
 refine Calls.spliced_cons (thn (ha pins s σ H _ I h) fun u s1 ⟨x, H1, I1, r1, q1⟩ => ?_)
 exact thn (hr pos pins s1 σ H1 _ I1 q1) fun us s2 ⟨xs, H2, I2, r2, q2⟩ => ⟨x :: xs, H2, I2, .cons r1 r2, q2⟩
end
abbrev Sp := List V → Hp → VK → XK → Prop
abbrev CXT := List Env → Hp → Shared → XK → Value → Shared → Prop
structure QU (P : Program) (w : World) (K : PySem.W.Frag) (mg : Str → Option Value) (base : Heap) (A : Around) (outer : List Env) (s : Shared) (H : Hp) : Prop where
 frames : A.frames = some outer
 mod : Mod K mg base
 bs : ∀ b o, base.get? b = some o → s.heap.get? b = some o ∧ H b = none
 bsz : base.objs.size ≤ s.heap.objs.size
 funs : s.heap.FunFrames base outer
 frf : ∀ b ∈ frs outer, H b = none
 hok : HOk P w H s.heap
 bare : AllBare s.gens
def CE (outer : List Env) (P : Program) (w : World) (H : Hp) (s : Shared) (Q : VK) (u : Value) (s' : Shared) : Prop :=
 ∃ v H', s'.os = s.os ∧ AllBare s'.gens ∧ Un (frs outer) [] H H' s.heap s'.heap ∧ HOk P w H' s'.heap ∧ RelV v u ∧ Q v H'
def CR (CX : CXT) (outer : List Env) (P : Program) (w : World) (H : Hp) (s : Shared) (Q : VK) (E : XK) (r : Result) (s' : Shared) : Prop :=
 match r with
 | .ok (.ret u) => CE outer P w H s Q u s'
 | .ok _ => False
 | .error e => CX outer H s E e s'
structure Ay (P : Program) (w : World) (K : PySem.W.Frag) (mg : Str → Option Value) (base : Heap) (CX : CXT) (k : Nat) (f : Addr) (fd : FuncData) (ps : List Str) (sp : Sp) : Prop where
 len : ∀ vs H Q E, sp vs H Q E → vs.length = ps.length
 run : ∀ (A : Around) (outer : List Env) (s : Shared) (H : Hp) (args : Args) (us : List Value) (vs : List V) (Q : VK) (E : XK), CT k A → QU P w K mg base A outer s H → BindsTo s fd args (ps.zip us) → Au vs us → sp vs H Q E →
  codeAny (model P w) A (.call (.ref f) args) (CR CX outer P w H s Q E) s
theorem QU.make {P : Program} {w : World} {K : PySem.W.Frag} {mg : Str → Option Value} {base : Heap} {A : Around} {outer : List Env} {s : Shared} {H : Hp} (e : QU P w K mg base A outer s H) (C : Addr) (us : List Value) (kw : List (Str × Value)) :
  QU P w K mg base (A.under (.builtin "type.__call__" ⟨.ref C :: us, kw⟩)) outer s H := ⟨by first | exact e.frames | (simpa [Around.under, Code.envs, Code.isFrame, pushEnvs] using e.frames), e.mod, e.bs, e.bsz, e.funs, e.frf, e.hok, e.bare⟩
section
variable {X : Cx} {pins : List (Addr × Obj)} {σ : St} {H : Hp} {s s' : Shared}
theorem Inv.env0 (I : Inv X pins σ H s) : QU X.prog X.w X.K X.mg X.base X.A X.stack s H :=
 ⟨I.ok.frames, I.ok.mod, I.bs, Nat.le_trans I.ok.bsz I.sz, I.stack, I.stkFree, I.hok, I.bare⟩
theorem Inv.after {Q : VK} {u : Value} (I : Inv X pins σ H s) (h : CE X.stack X.prog X.w H s Q u s') : EP X pins σ Q u s' := by
 obtain ⟨v, H', os, bare, un, hok, r, q⟩ := h
 obtain ⟨hh, g, d, t, os'⟩ := s'
 obtain rfl : os' = s.os := os
 exact ⟨v, H', I.call (h' := hh) (g' := g) (d' := d) (t' := t) (ch := []) un hok bare (fun b z => absurd z (by simp)), r, q⟩
end
def HY (sp : Sp) (dvs : List V) (E : XK) (t : TA) : TE := fun σ H Q => t σ H fun vs H1 => sp (vs ++ dvs) H1 Q E
def Hi (C : Addr) (m : Str) (sp : Sp) (dvs : List V) (E : XK) (ta : TE) (t : TA) : TE := fun σ H Q => ta σ H fun x H1 => ∃ a dx fs, x = .ref a ∧ H1 a = some (.ins C dx fs) ∧ fs.lookup m = none ∧
 t σ H1 fun vs H2 => sp (x :: (vs ++ dvs)) H2 Q E
def GR (C : Addr) (sp : Sp) (dvs : List V) (E : XK) (t : TA) : TE := fun σ H Q => t σ H fun vs H1 => ∀ x dx, H1 x = none → H1 dx = none → dx ≠ x →
 sp (.ref x :: (vs ++ dvs)) (upd (upd H1 dx (.own x)) x (.ins C dx [])) (fun v H2 => v = .non ∧ Q (.ref x) H2) E
def Binds (K : PySem.W.Frag) (fd : FuncData) (ps : List Str) (ds : List Value) : Prop :=
 ∀ (s : Shared) (us : List Value), K.In s.heap → (us ++ ds).length = ps.length → BindsTo s fd ⟨us, []⟩ (ps.zip (us ++ ds))
theorem Binds.all {K : PySem.W.Frag} {fd : FuncData} {ps : List Str} (h : ∀ us : List Value, us.length = ps.length → bindArgs fd ⟨us, []⟩ = pure (ps.zip us)) : Binds K fd ps [] := fun s us _ hl => by
 rw [List.append_nil] at hl ⊢
 exact .of_eq (h us hl)
def Ie (CX : CXT) (X : Cx) (E : XK) : Prop := ∀ (pins : List (Addr × Obj)) (σ : St) (H : Hp) (s : Shared) (e : Value) (s' : Shared), Inv X pins σ H s → CX X.stack H s E e s' → X.xe e s'
section
variable {X : Cx} {CX : CXT} {k : Nat} {f C : Addr} {fd : FuncData} {ps : List Str} {sp : Sp} {dvs : List V} {ds : List Value} {E : XK} {x m : Str} {p pos apos : Pos} {e o : Expr} {es : List Expr} {ta : TE} {t : TA}
theorem SK {pins : List (Addr × Obj)} {σ : St} {H : Hp} {s : Shared} {Q : VK} {us : List Value} {vs : List V} (F : Ay X.prog X.w X.K X.mg X.base CX k f fd ps sp) (hr : CT k X.A) (hb : Binds X.K fd ps ds) (hd : Au dvs ds) (hx : Ie CX X E)
  (I : Inv X pins σ H s) (r : Au vs us) (h : sp (vs ++ dvs) H Q E) : wpAny (model X.prog X.w) X.A (call (.ref f) us) (EP X pins σ Q) X.xe s := by
 have r2 : Au (vs ++ dvs) (us ++ ds) := r.append hd
 have hl : (us ++ ds).length = ps.length := by rw [← r2.length]; exact F.len _ _ _ _ h
 refine wpAny_call (codeAny_mono (F.run X.A X.stack s H ⟨us, []⟩ (us ++ ds) (vs ++ dvs) Q E hr I.env0 (hb s us I.kIn hl) r2 h) fun r s' hq => ?_)
 cases r with
 | error e => exact hx pins σ H s e s' I hq
 | ok fl =>
  cases fl with
  | ret u => exact I.after hq
  | next => exact False.elim hq
  | brk => exact False.elim hq
  | cont => exact False.elim hq
theorem AR (F : Ay X.prog X.w X.K X.mg X.base CX k f fd ps sp) (hr : CT k X.A) (hg : Gl X x) (hm : X.mg x = some (.ref f)) (hk : PySem.W.keepIn X.K (.ref f) = true) (hb : Binds X.K fd ps ds) (hd : Au dvs ds) (hx : Ie CX X E)
  (ha : PA X (e :: es) t) (hdb : (x == ("__debug__" : Str)) = false := by decide) (he : starEach (e :: es) X.env = (false, eval e X.env) :: starEach es X.env := by rfl) (hpl : (backTo pos (starEach es X.env)).any (·.1) = false := by rfl) :
  PE X (.Call (.Name x p) (e :: es) [] pos) (HY sp dvs E t) := by
 intro pins s σ H Q I h
 refine wpAny_Call_Name_kw (Jj I hg hm ?_ hdb)
 refine PySem.W.callWith_K (h₀ := X.base) I.ok.mod.kin hk (thn (ha pos pins s σ H _ I h) fun us s1 ⟨vs, H1, I1, r, q⟩ => ⟨I1.kIn, ?_⟩) he hpl
 exact SK F hr hb hd hx I1 r q
theorem Fe {pl : Sem Bool} (he : PE X o ta) (c : Cls X.K C) (hm : RM X.K C m f) (F : Ay X.prog X.w X.K X.mg X.base CX k f fd ps sp) (hr : CT k X.A) (hb : Binds X.K fd ps ds) (hd : Au dvs ds) (hx : Ie CX X E) (ha : PA X (e :: es) t)
  (hst : starEach (e :: es) X.env = (false, eval e X.env) :: starEach es X.env := by rfl) (hpl : (backTo pos (starEach es X.env)).any (·.1) = false := by rfl)
  (ht : eval (.Call (.Attribute o m apos) (e :: es) [] pos) X.env = (do
   let ov ← eval o X.env
   standAt apos.atName
   let (f, first) ← holding [ov] (getMethod ov m pl)
   callWith pos f first (backTo pos (starEach (e :: es) X.env)) (backToKw pos (keywordEach [] X.env))) := by rfl) :
  PE X (.Call (.Attribute o m apos) (e :: es) [] pos) (Hi C m sp dvs E ta t) := by
 intro pins s σ H Q I h
 refine PySem.W.methodCall_KW (pl := pl) (thn (he pins s σ H _ I h) fun u s1 ⟨x, H1, I1, rx, a, dx, fs, ex, ea, l, q⟩ => ?_) ht
 subst ex
 obtain rfl : u = Value.ref a := rx
 refine IN I1 ea c hm l ?_
 refine PySem.W.callWith_K (first := [.ref a]) (h₀ := X.base) I.ok.mod.kin hm.kp (thn (ha pos pins s1 σ H1 _ I1 q) fun us s2 ⟨vs, H2, I2, r, q2⟩ => ⟨I2.kIn, ?_⟩) hst hpl
 exact SK (us := .ref a :: us) (vs := .ref a :: vs) F hr hb hd hx I2 (.cons rfl r) q2
structure Mk (K : PySem.W.Frag) (C f : Addr) : Prop where
 makes : PySem.W.makesIn K C = true
 init : PySem.W.findIn K (.ref C) "__init__" = some (some (.ref f))
 fn : PySem.W.isFn K (.ref f) = true
 kp : PySem.W.keepIn K (.ref C) = true
theorem Te {pins : List (Addr × Obj)} {σ : St} {H : Hp} {s : Shared} {Q : VK} {us : List Value} {vs : List V} (M : Mk X.K C f) (F : Ay X.prog X.w X.K X.mg X.base CX k f fd ps sp) (hr : CT (k + 1) X.A) (hb : Binds X.K fd ps ds) (hd : Au dvs ds)
  (hx : Ie CX X E) (I : Inv X pins σ H s) (r : Au vs us)
  (h : ∀ x dx, H x = none → H dx = none → dx ≠ x → sp (.ref x :: (vs ++ dvs)) (upd (upd H dx (.own x)) x (.ins C dx [])) (fun v H2 => v = .non ∧ Q (.ref x) H2) E) :
  wpAny (model X.prog X.w) X.A (call (.ref C) us) (EP X pins σ Q) X.xe s := by
 have hq := h (s.heap.objs.size + 1) s.heap.objs.size (I.hok.fresh (Nat.le_succ _)) (I.hok.fresh (Nat.le_refl _)) (Nat.ne_of_lt (Nat.lt_succ_self _))
 have I2 := Inv.made (C := C) I
 have r2 : Au (V.ref (s.heap.objs.size + 1) :: (vs ++ dvs)) (Value.ref (s.heap.objs.size + 1) :: (us ++ ds)) := .cons rfl (r.append hd)
 have hl : (Value.ref (s.heap.objs.size + 1) :: us ++ ds).length = ps.length := by
  have e := r2.length
  rw [F.len _ _ _ _ hq] at e
  exact e.symm
 refine wpAny_call (Sg (f := f) I.kIn M.makes M.init (beq_iff_eq.mp M.fn) (codeAny_mono (F.run _ X.stack _ _ ⟨Value.ref (s.heap.objs.size + 1) :: us, []⟩ (Value.ref (s.heap.objs.size + 1) :: (us ++ ds)) _ _ E (hr.make C us [])
  (I2.env0.make C us []) (hb _ (Value.ref (s.heap.objs.size + 1) :: us) I2.kIn hl) r2 hq) fun r s' hq' => ?_))
 cases r with
 | error e => exact hx pins σ _ _ e s' I2 hq'
 | ok fl =>
  cases fl with
  | ret u =>
   obtain ⟨v, H', I3, rv, ev, q3⟩ := I2.after hq'
   subst ev
   exact ⟨rv, ⟨V.ref (s.heap.objs.size + 1), H', I3, rfl, q3⟩⟩
  | next => exact False.elim hq'
  | brk => exact False.elim hq'
  | cont => exact False.elim hq'
theorem So (M : Mk X.K C f) (F : Ay X.prog X.w X.K X.mg X.base CX k f fd ps sp) (hr : CT (k + 1) X.A) (hg : Gl X x) (hm : X.mg x = some (.ref C)) (hb : Binds X.K fd ps ds) (hd : Au dvs ds) (hx : Ie CX X E)
  (hdb : (x == ("__debug__" : Str)) = false := by decide) : PE X (.Call (.Name x p) [] [] pos) (GR C sp dvs E Kq) := by
 intro pins s σ H Q I h
 refine wpAny_Call_Name_kw (Jj I hg hm ?_ hdb)
 exact PySem.W.callWith_K0 I.kIn M.kp (Te (us := []) M F hr hb hd hx I .nil h)
end
section
variable {X : Cx} {CX : CXT} {k : Nat} {f C : Addr} {fd : FuncData} {ps ks : List Str} {sp : Sp} {E : XK} {x m : Str} {p pos apos kpos : Pos} {e o : Expr} {es : List Expr} {kws : List Keyword} {te ta : TE} {t tk : TA} {nm : Option Str}
variable {g : List Value → List Value → List Value} {gV : List V → List V → List V}
end
structure AY (N P : List Str) (sc : Scope) : Prop where
 kind : sc.kind = .function
 co : sc.isCoroutine = false
 gen : sc.isGenerator = false
 nd : N.Nodup
 pre : N.take P.length = P
 par : ∀ x ∈ P, sc.names.lookup x = some .local ∨ sc.names.lookup x = some .cell
 nofree : ∀ y ∈ sc.names, y.2 ≠ .free
theorem Mv {kindOf : Str → Option NameKind} {x : Str} : ∀ {binds : List (Str × Value)} {m : Str → Option Value}, (∀ v, (x, v) ∉ binds) → bindL kindOf binds m x = m x
 | [], _, _ => rfl
 | (n, v) :: r, m, h => by
  unfold bindL
  rw [Mv fun w hw => h w (List.mem_cons_of_mem _ hw)]
  split
  ·have : x ≠ n := by rintro rfl; exact h v List.mem_cons_self
   simp [this]
  ·rfl
theorem NB {kindOf : Str → Option NameKind} {x : Str} : ∀ {binds : List (Str × Value)} {m : Str → Option Value}, (∀ v, (x, v) ∉ binds) → bindC kindOf binds m x = m x
 | [], _, _ => rfl
 | (n, v) :: r, m, h => by
  unfold bindC
  rw [NB fun w hw => h w (List.mem_cons_of_mem _ hw)]
  split
  ·rfl
  ·have : x ≠ n := by rintro rfl; exact h v List.mem_cons_self
   simp [this]
theorem Mz {kindOf : Str → Option NameKind} {x : Str} {v : Value} : ∀ {P : List Str} {vs : List Value} {i : Nat} {m : Str → Option Value}, P.Nodup → P[i]? = some x → vs[i]? = some v → kindOf x = some .local →
  bindL kindOf (P.zip vs) m x = some v
 | [], _, _, _, _, h, _, _ => by simp at h
 | _ :: _, [], _, _, _, _, h, _ => by simp at h
 | p :: P, w :: vs, 0, m, nd, h1, h2, hk => by
  simp at h1 h2; subst h1; subst h2
  show bindL kindOf ((p, w) :: P.zip vs) m p = _
  unfold bindL
  rw [Mv fun v hv => (List.nodup_cons.mp nd).1 (List.of_mem_zip hv).1, if_pos hk]
  simp
 | p :: P, w :: vs, i + 1, m, nd, h1, h2, hk => by
  show bindL kindOf ((p, w) :: P.zip vs) m x = _
  unfold bindL
  exact Mz (i := i) (List.nodup_cons.mp nd).2 (by simpa using h1) (by simpa using h2) hk
theorem NT {kindOf : Str → Option NameKind} {x : Str} {v : Value} : ∀ {P : List Str} {vs : List Value} {i : Nat} {m : Str → Option Value}, P.Nodup → P[i]? = some x → vs[i]? = some v → kindOf x ≠ some .local →
  bindC kindOf (P.zip vs) m x = some v
 | [], _, _, _, _, h, _, _ => by simp at h
 | _ :: _, [], _, _, _, _, h, _ => by simp at h
 | p :: P, w :: vs, 0, m, nd, h1, h2, hk => by
  simp at h1 h2; subst h1; subst h2
  show bindC kindOf ((p, w) :: P.zip vs) m p = _
  unfold bindC
  rw [NB fun v hv => (List.nodup_cons.mp nd).1 (List.of_mem_zip hv).1, if_neg hk]
  simp
 | p :: P, w :: vs, i + 1, m, nd, h1, h2, hk => by
  show bindC kindOf ((p, w) :: P.zip vs) m x = _
  unfold bindC
  exact NT (i := i) (List.nodup_cons.mp nd).2 (by simpa using h1) (by simpa using h2) hk
def start (N : List Str) (vs : List V) : St := vs.map some ++ List.replicate (N.length - vs.length) none
def FM (CX : CXT) (P : Program) (w : World) (K : PySem.W.Frag) (mg : Str → Option Value) (base : Heap) (N : List Str) (qual : Str) (scope : Scope) (f : Addr) (cd : Value) (A : Around) (outer : List Env) (s : Shared) (H : Hp) (E : XK) : Cx where
 prog := P
 w := w
 K := K
 mg := mg
 base := base
 A := A.deeper (envOfC qual scope s.heap.objs.size f cd)
 N := N
 s₀ := s
 H₀ := H
 env := envOfC qual scope s.heap.objs.size f cd
 outer := outer
 stack := envOfC qual scope s.heap.objs.size f cd :: outer
 ex := []
 calm := true
 fn := fun _ => true
 pn := []
 xe := fun e s' => wpAny (model P w) (A.deeper (envOfC qual scope s.heap.objs.size f cd)) (leaving (envOfC qual scope s.heap.objs.size f cd) e) (fun _ s'' => CX outer H s E e s'') (fun e' s'' => CX outer H s E e' s'') s'
theorem Pf {sc : Scope} {n : Nat} {x : Str} (h : sc.names.lookup x = some .cell) : ∃ c, (cellsFrom n sc.names []).lookup x = some c := by
 have q := PySem.W.cellsFrom_some sc.names n [] (.inl h)
 exact Option.isSome_iff_exists.mp q
theorem Rn {CX : CXT} {P : Program} {w : World} {K : PySem.W.Frag} {mg : Str → Option Value} {base : Heap} {N ps : List Str} {qual : Str} {scope : Scope} {f : Addr} {cd : Value} {A : Around} {outer : List Env} {s s1 : Shared} {H : Hp} {E : XK} {us : List Value} {vs : List V}
  (S : AY N ps scope) (hd : A.handled = none) (e0 : QU P w K mg base A outer s H) (hl : vs.length = ps.length) (r : Au vs us)
  (x : InCallC s s.heap.objs.size (bindL (envOfC qual scope s.heap.objs.size f cd).kindOf (ps.zip us) fun _ => none) (cellsFrom (s.heap.objs.size + 1) scope.names []) (bindC (envOfC qual scope s.heap.objs.size f cd).kindOf (ps.zip us) fun _ => none) s1) :
  Inv (FM CX P w K mg base N qual scope f cd A outer s H E) [] (start N vs) H s1 := by
 have hpl : ps.length ≤ N.length := by have := congrArg List.length S.pre; rw [List.length_take] at this; omega
 obtain ⟨h1, tk, rfl, hk⟩ := x.done
 have noA : ∀ b : Addr, b ∉ (FM CX P w K mg base N qual scope f cd A outer s H E).ex := fun b z => absurd (show b ∈ ([] : List Addr) from z) (by simp)
 refine ⟨⟨e0.mod, S.kind, rfl, rfl, Nat.le_refl _, fun y z c h1 h2 => ?_, fun y hy => ?_, fun y c _ h => ?_, fun _ => hd, Around.frames_deeper e0.frames, .inr ⟨rfl, rfl⟩, fun b z => absurd z (noA b), e0.bs, e0.bsz, fun b _ _ => noA b, fun b z => absurd z (noA b), e0.funs, e0.frf⟩,
  rfl, e0.bare, Un.kept hk, ⟨_, x.toInCall.ns, fun i y v h1 h2 h3 => ?_⟩, fun y c h => ⟨_, x.cell y c h⟩, e0.hok.fresh (Nat.le_refl _), fun y c h => ?_, fun p hp => absurd (show p ∈ ([] : List (Addr × Obj)) from hp) (by simp), e0.hok.kept hk, ?_⟩
 ·exact name_of_addr x.apart (PySem.mem_of_lookup h1) (PySem.mem_of_lookup h2)
 ·have hy : scope.names.lookup y = some .cell ∨ scope.names.lookup y = some .free := hy
  rcases hy with hy | hy
  ·exact Pf hy
  ·exact absurd rfl (S.nofree _ (PySem.mem_of_lookup hy))
 ·exact Nat.le_of_lt (x.above y c (PySem.mem_of_lookup h))
 ·have hi : i < vs.length := by
   unfold start at h2
   by_cases hi : i < vs.length
   ·exact hi
   ·rw [List.getElem?_append_right (by simpa using hi)] at h2
    rw [List.getElem?_replicate] at h2
    split at h2 <;> cases h2
  have ha : vs[i]? = some v := by
   unfold start at h2
   rw [List.getElem?_append_left (by simpa using hi), List.getElem?_map] at h2
   cases e : vs[i]? with
   | none => rw [e] at h2; cases h2
   | some a => rw [e] at h2; cases h2; rfl
  obtain ⟨u, hu, rv⟩ := r.get ha
  have hp : ps[i]? = some y := by
   rw [← S.pre, List.getElem?_take_of_lt (by omega)]; exact h1
  have ndP : ps.Nodup := by rw [← S.pre]; exact S.nd.sublist (List.take_sublist _ _)
  refine ⟨u, rv, ?_⟩
  rcases S.par y (List.mem_of_getElem? hp) with k | k
  ·exact .inl ⟨k, Mz ndP hp hu k⟩
  ·obtain ⟨c, e⟩ := Pf (n := s.heap.objs.size + 1) k
   refine .inr ⟨.inl k, c, e, ?_⟩
   have q := x.cell y c e
   rw [NT ndP hp hu (by show scope.names.lookup y ≠ _; rw [k]; decide)] at q
   exact q
 ·exact e0.hok.fresh (Nat.le_of_lt (x.above y c (PySem.mem_of_lookup h)))
 ·unfold start
  show _ = N.length
  rw [List.length_append, List.length_map, List.length_replicate]
  omega
theorem Q2 {CX : CXT} {P : Program} {w : World} {K : PySem.W.Frag} {mg : Str → Option Value} {base : Heap} {k : Nat} {f : Addr} {name qual : Str} {params : Arguments} {body : List Stmt} {scope : Scope} {dV kV doc pm cdv ct oc : Value} {an od : Option Addr}
  {osl : Array (Option Value)} {N ps : List Str} {sp : Sp} (lk : K.lookup f = some ⟨oc, od, .func (PySem.W.fnOf name qual params body scope dV kV doc pm an cdv ct), osl⟩) (hcd : PySem.W.codeIn K cdv qual = true) (S : AY N ps scope)
  (len : ∀ vs H Q E, sp vs H Q E → vs.length = ps.length)
  (hbody : ∀ (A : Around) (outer : List Env) (s : Shared) (H : Hp) (vs : List V) (Q : VK) (E : XK), CT k (A.deeper (envOfC qual scope s.heap.objs.size f cdv)) → sp vs H Q E →
   ∃ t, PSs (FM CX P w K mg base N qual scope f cdv A outer s H E) body t ∧ t { nx := fun _ H' => Q .non H', rt := Q } (start N vs) H) :
  Ay P w K mg base CX (k + 1) f (PySem.W.fnOf name qual params body scope dV kV doc pm an cdv ct) ps sp := by
 refine ⟨len, fun A outer s H args us vs Q E hr e0 hb r hsp => ?_⟩
 have hl := len _ _ _ _ hsp
 have KX : K.In s.heap := e0.mod.kin.keeps fun b o e => (e0.bs b o e).1
 have lim : s.heap.NoLimit := e0.mod.nolimit.keeps fun b o e => (e0.bs b o e).1
 have hkind : ∀ y ∈ ps.zip us, scope.names.lookup y.1 = some .local ∨ (scope.names.lookup y.1 = some .cell ∧ ((cellsFrom (s.heap.objs.size + 1) scope.names []).lookup y.1).isSome = true) := fun ⟨n, v⟩ hy => by
  rcases S.par n (List.of_mem_zip hy).1 with q | q
  ·exact .inl q
  ·exact .inr ⟨q, PySem.W.cellsFrom_some _ _ _ (.inl q)⟩
 refine codeAny_call_function hr.depth (KX _ _ lk) rfl S.co S.gen rfl (PySem.W.codeRec_of KX hcd) (hb _ _ _ _ ?_)
 refine wpAny_newFunctionEnv_cells S.kind hkind fun env he s1 x => ?_
 subst he
 refine ⟨lim.keeps x.toInCall.keep, codeAny_func ?_⟩
 obtain ⟨t, ht, hq⟩ := hbody A outer s H vs Q E (hr.deeper _) hsp
 have I : Inv (FM CX P w K mg base N qual scope f cdv A outer s H E) [] (start N vs) H s1 := Rn S hr.hd e0 hl r x
 refine wpAny_mono (ht [] s1 (start N vs) H _ I hq) (fun fl s' hs => ?_) fun e s' hs => hs
 have fin : ∀ {σ' : St} {H' : Hp} {v : V} {u : Value}, Inv (FM CX P w K mg base N qual scope f cdv A outer s H E) [] σ' H' s' → RelV v u → Q v H' → CE outer P w H s Q u s' :=
  fun {σ' H' v u} J rv q => ⟨v, H', J.os, J.bare, J.base, J.hok, rv, q⟩
 cases fl with
 | ret u =>
  obtain ⟨v, σ', H', J, rv, q⟩ := hs
  exact fin J rv q
 | next =>
  obtain ⟨σ', H', J, q⟩ := hs
  exact fin (v := V.non) (u := Value.none) J rfl q
 | brk =>
  obtain ⟨_, _, _, q⟩ := hs
  exact False.elim q
 | cont =>
  obtain ⟨_, _, _, q⟩ := hs
  exact False.elim q
end L2
namespace L2
open PySem PySem.Spec PyProof.Rows
section
variable {X : Cx} {x : Str} {p pos : Pos} {e : Expr} {es : List Expr} {t : TA} {id T : String} {r : List V → Hp → VK → Prop}
def tCB (r : List V → Hp → VK → Prop) (t : TA) : TE := fun σ H Q => t σ H fun vs H1 => r vs H1 Q
theorem AM (hc : CA X (.builtin id) r) (hg : Gl X x) (hm : X.mg x = none) (hv : bootBuiltins x = some (.builtin id)) (ha : PA X (e :: es) t) (hn : x ≠ "__name__" := by decide) (hdb : (x == ("__debug__" : Str)) = false := by decide)
  (he : starEach (e :: es) X.env = (false, eval e X.env) :: starEach es X.env := by rfl) (hpl : (backTo pos (starEach es X.env)).any (·.1) = false := by rfl) : PE X (.Call (.Name x p) (e :: es) [] pos) (tCB r t) := by
 intro pins s σ H Q I h
 refine wpAny_Call_Name_kw (IX I hg hm hv ?_ hn hdb)
 exact PyProof.Rows.callWith_builtin1 (thn (ha pos pins s σ H _ I h) fun us s1 ⟨vs, H1, I1, r1, q1⟩ => hc pins s1 σ H1 vs us Q I1 r1 q1) he hpl
theorem G9 (hc : CA X (.type T) r) (hg : Gl X x) (hm : X.mg x = none) (hv : bootBuiltins x = some (.type T)) (ha : PA X (e :: es) t) (hn : x ≠ "__name__" := by decide) (hdb : (x == ("__debug__" : Str)) = false := by decide)
  (he : starEach (e :: es) X.env = (false, eval e X.env) :: starEach es X.env := by rfl) (hpl : (backTo pos (starEach es X.env)).any (·.1) = false := by rfl) : PE X (.Call (.Name x p) (e :: es) [] pos) (tCB r t) := by
 intro pins s σ H Q I h
 refine wpAny_Call_Name_kw (IX I hg hm hv ?_ hn hdb)
 exact PyProof.Rows.callWith_type1 (thn (ha pos pins s σ H _ I h) fun us s1 ⟨vs, H1, I1, r1, q1⟩ => hc pins s1 σ H1 vs us Q I1 r1 q1) he hpl
end
end L2
namespace HT
open PySem PyProof.Rows
def lexLt : List Int → List Int → Bool
 | [], [] => false
 | [], _ :: _ => true
 | _ :: _, [] => false
 | x :: xs, y :: ys => if x = y then lexLt xs ys else decide (x < y)
theorem lexLt_cons (x y : Int) (xs ys : List Int) : lexLt (x :: xs) (y :: ys) = if x = y then lexLt xs ys else decide (x < y) := rfl
section
open PySem.SeqAt
open PySem.AutoSeq1 (wpAny_loadPart')
open PySem.MeetsSeq PySem.MeetsSeq2 PySem.MeetsSeq3
end
section
variable {prog : Program} {w : World} {A : Around} {E : Value → Shared → Prop} {s : Shared}
def sIx (n d : Nat) : Option Int → Nat
 | none => d
 | some v => if v < 0 then (v + (n : Int)).toNat else min v.toNat n
theorem sIx_none (n d : Nat) : sIx n d none = d := rfl
theorem sIx_nat (n d k : Nat) : sIx n d (some (k : Int)) = min k n := by
 show (if (k : Int) < 0 then ((k : Int) + (n : Int)).toNat else min (k : Int).toNat n) = min k n
 rw [if_neg (by omega), Int.toNat_natCast]
end
end HT
namespace L2
open PySem PySem.Spec PyProof.Rows
abbrev TO := St → Hp → (Option Int → Hp → Prop) → Prop
def PO (X : Cx) (e : Option Expr) (t : TO) : Prop :=
 ∀ (pins : List (Addr × Obj)) (s : Shared) (σ : St) (H : Hp) (Q : Option Int → Hp → Prop), Inv X pins σ H s → t σ H Q →
  wpAny (model X.prog X.w) X.A (evalPart e X.env) (fun u s' => ∃ o H', Inv X pins σ H' s' ∧ IsPart u o ∧ Q o H') X.xe s
def DT : TO := fun _ H Q => Q none H
def Ht (t : TE) : TO := fun σ H Q => t σ H fun x H1 => ∃ i, x = .int i ∧ Q (some i) H1
section
variable {X : Cx} {e : Expr} {te : TE} {lo hi : Option Expr} {tl th : TO} {pos p2 : Pos}
theorem Ky : PO X none DT := by
 intro pins s σ H Q I h
 rw [evalPart_none]
 exact wpAny_pure ⟨none, H, I, .none, h⟩
theorem Kx (h : PE X e te) : PO X (some e) (Ht te) := by
 intro pins s σ H Q I hw
 rw [evalPart_some]
 refine thn (h pins s σ H _ I hw) fun u s1 ⟨x, H1, I1, r1, q1⟩ => ?_
 obtain ⟨i, rfl, q⟩ := q1
 obtain ⟨t, rfl⟩ := r1
 exact ⟨some i, H1, I1, .int i t, q⟩
def SlR (X : Cx) (r : V → Option Int → Option Int → Hp → VK → Prop) : Prop :=
 ∀ (pins : List (Addr × Obj)) (s : Shared) (σ : St) (H : Hp) (x : V) (v vl vu : Value) (lo hi : Option Int) (sl : Addr) (Q : VK), Inv X pins σ H s → RelV x v → s.heap.IsSliceOf sl vl vu .none → IsPart vl lo → IsPart vu hi → r x lo hi H Q →
  ∃ T id, typeLookup (.type T) "__getitem__" = pure (some (.builtin id)) ∧ s.TypeIs v T ∧ wpAny (model X.prog X.w) X.A (getItem v (.ref sl)) (EP X pins σ Q) X.xe s
def tSl (r : V → Option Int → Option Int → Hp → VK → Prop) (te : TE) (tl th : TO) : TE := fun σ H Q => te σ H fun x H1 => tl σ H1 fun l H2 => th σ H2 fun u H3 => r x l u H3 Q
theorem JC {r : V → Option Int → Option Int → Hp → VK → Prop} (hr : SlR X r) (he : PE X e te) (hl : PO X lo tl) (hu : PO X hi th) : PE X (.Subscript e (.Slice lo hi none p2) pos) (tSl r te tl th) := by
 intro pins s σ H Q I h
 refine Subscript_ (thn (he pins s σ H _ I h) fun v s1 ⟨x, H1, I1, r1, q1⟩ => ?_)
 refine wpAny_Slice (thn (hl pins s1 σ H1 _ I1 q1) fun vl s2 ⟨l, H2, I2, pl, q2⟩ => thn (hu pins s2 σ H2 _ I2 q2) fun vu s3 ⟨u, H3, I3, pu, q3⟩ => ?_)
 rw [evalPart_none]
 refine wpAny_pure ?_
 have I4 : Inv X pins σ H3 { s3 with heap := s3.heap.push { cls := .type "slice", data := .fields #[vl, vu, .none] } } := I3.kept (t' := s3.toks) fun b ob q => Heap.get?_push_of_some _ q
 obtain ⟨T, id, hT, ht, hg⟩ := hr pins { s3 with heap := s3.heap.push { cls := .type "slice", data := .fields #[vl, vu, .none] } } σ H3 x v vl vu l u s3.heap.objs.size Q I4 r1 (Heap.IsSliceOf.new ..) pl pu q3
 show wpAny (model X.prog X.w) X.A (subscriptTail e (.Slice lo hi none p2) v (.ref s3.heap.objs.size)) (EP X pins σ Q) X.xe { s3 with heap := s3.heap.push { cls := .type "slice", data := .fields #[vl, vu, .none] } }
 exact tail_any (ops := [.ref s3.heap.objs.size, v]) ht hT hg (by with_unfolding_all rfl)
def Mc (xs : List V) (lo hi : Option Int) : List V := (xs.drop (HT.sIx xs.length 0 lo)).take (HT.sIx xs.length xs.length hi - HT.sIx xs.length 0 lo)
theorem PZ (xs : List V) (lo hi : Option Int) : (Mc xs lo hi).length ≤ xs.length := by
 unfold Mc
 rw [List.length_take, List.length_drop]
 omega
end
end L2
namespace L2
open PySem PySem.Spec PyProof.Rows
def ixN (n : Nat) (i : Int) : Option Nat := if 0 ≤ i then (if i < n then some i.toNat else none) else if -(n : Int) ≤ i then some (i + n).toNat else none
def atI {α : Type} (xs : List α) (i : Int) : Option α := (ixN xs.length i).bind fun j => xs[j]?
theorem Qu {n : Nat} {i : Int} {j : Nat} (h : ixN n i = some j) : seqIndex? i n = some j ∧ j < n ∧ -(n : Int) ≤ i ∧ i < n := by
 unfold ixN at h
 by_cases h0 : 0 ≤ i
 ·rw [if_pos h0] at h
  by_cases h1 : i < n
  ·rw [if_pos h1] at h
   have e : i.toNat = j := Option.some.inj h
   exact ⟨by rw [seqIndex_of h0 h1, e], by omega, by omega, h1⟩
  ·rw [if_neg h1] at h; cases h
 ·rw [if_neg h0] at h
  by_cases h1 : -(n : Int) ≤ i
  ·rw [if_pos h1] at h
   have e : (i + n).toNat = j := Option.some.inj h
   exact ⟨by rw [seqIndex_neg (by omega) h1, e], by omega, h1, by omega⟩
  ·rw [if_neg h1] at h; cases h
theorem Q1 {α : Type} {xs : List α} {i : Int} {v : α} (h : atI xs i = some v) : ∃ j, seqIndex? i xs.length = some j ∧ xs[j]? = some v ∧ j < xs.length ∧ -(xs.length : Int) ≤ i ∧ i < xs.length := by
 unfold atI at h
 cases e : ixN xs.length i with
 | none => rw [e] at h; cases h
 | some j =>
  rw [e] at h
  obtain ⟨h1, h2, h3, h4⟩ := Qu e
  exact ⟨j, h1, h, h2, h3, h4⟩
theorem N0 {α : Type} {xs : List α} {j : Nat} {v : α} (h : xs[j]? = some v) : atI xs (j : Int) = some v := by
 have hj : j < xs.length := (List.getElem?_eq_some_iff.mp h).1
 have e : ixN xs.length (j : Int) = some j := by
  unfold ixN
  rw [if_pos (by omega), if_pos (by omega)]; simp
 unfold atI; rw [e]; exact h
def To (b : Expr) : Prop := ∀ o i, subscripted b false o i = operate [o, i] (getItem o i)
def IxR (X : Cx) (r : R2) : Prop :=
 ∀ (value slice : Expr) (pins : List (Addr × Obj)) (s : Shared) (σ : St) (H : Hp) (x y : V) (v u : Value) (Q : VK), Inv X pins σ H s → RelV x v → RelV y u → r x y H Q →
  subscripted slice false v u = operate [v, u] (getItem v u) → wpAny (model X.prog X.w) X.A (subscriptTail value slice v u) (EP X pins σ Q) X.xe s
def MtR (X : Cx) (id : String) (r : V → List V → Hp → VK → Prop) : Prop :=
 ∀ (pins : List (Addr × Obj)) (s : Shared) (σ : St) (H : Hp) (x : V) (xs : List V) (v : Value) (us : List Value) (Q : VK), Inv X pins σ H s → RelV x v → Au xs us → r x xs H Q →
  wpAny (model X.prog X.w) X.A (call (.builtin id) (v :: us)) (EP X pins σ Q) X.xe s
section
variable {X : Cx} {a b : Expr} {ta tb : TE} {pos : Pos}
theorem AG {r : R2} (hr : IxR X r) (ha : PE X a ta) (hb : PE X b tb) (hs : To b) : PE X (.Subscript a b pos) (tOp r ta tb) := by
 intro pins s σ H Q I h
 exact Subscript_ (VE ha hb I h fun v u s2 x y H2 I2 rx ry q => hr a b pins s2 σ H2 x y v u Q I2 rx ry q (hs _ _))
def MV (K : PySem.W.Frag) : R2 := fun x y H Q => ∃ p xs i v, x = .ref p ∧ y = .int i ∧ SqL K H p xs ∧ atI xs i = some v ∧ Q v H
def Lm (K : PySem.W.Frag) : R2 := fun x y H Q => ∃ p xs i v, x = .ref p ∧ y = .int i ∧ SqT K H p xs ∧ atI xs i = some v ∧ Q v H
theorem AN : IxR X (MV X.K) := by
 intro value slice pins s σ H x y v u Q I rx ry h hs
 obtain ⟨p, xs, i, z, rfl, rfl, hq, he, q⟩ := h
 cases rx
 obtain ⟨t, rfl⟩ := ry
 obtain ⟨its, r, pl, hz⟩ := I.list hq
 obtain ⟨j, h1, h2, h3, h4, h5⟩ := Q1 he
 obtain ⟨w, ew, rw'⟩ := r.get h2
 have hl := r.length
 have hn := LI
 have fin : EP X pins σ Q w s := ⟨z, H, I, rw', q⟩
 by_cases h0 : 0 ≤ i
 ·have hj : i.toNat = j := by
   rw [seqIndex_of h0 h5] at h1
   exact Option.some.inj h1
  exact item_listR pl.isList h0 (by omega) (by rw [hj]; simpa using ew) fin hs
 ·have hj : (i + (its.toArray.size : Int)).toNat = j := by
   rw [seqIndex_neg (by omega) h4] at h1
   rw [List.size_toArray, ← hl]
   exact Option.some.inj h1
  exact subscriptTail_builtinR (x := w) pl.isList.typeIs slot_list_getitem.lookup
   (wpAny_getItem_list_neg (Q := fun r s' => r = w ∧ EP X pins σ Q r s') pl.isList (by omega) (by rw [List.size_toArray] <;> omega) (by omega) (by rw [hj]; simpa using ew) ⟨rfl, fin⟩) hs
theorem AT : IxR X (Lm X.K) := by
 intro value slice pins s σ H x y v u Q I rx ry h hs
 obtain ⟨p, xs, i, z, rfl, rfl, hq, he, q⟩ := h
 cases rx
 obtain ⟨t, rfl⟩ := ry
 obtain ⟨its, r, pl, hz⟩ := I.tuple hq
 obtain ⟨j, h1, h2, h3, h4, h5⟩ := Q1 he
 obtain ⟨w, ew, rw'⟩ := r.get h2
 have hl := r.length
 have hn := LI
 have fin : EP X pins σ Q w s := ⟨z, H, I, rw', q⟩
 exact subscriptTail_builtinR (x := w) pl.typeIs slot_tuple_getitem.lookup
  (getItem_tuple (j := j) (Q := fun r s' => r = w ∧ EP X pins σ Q r s') pl (by omega) (by omega) (by rw [List.size_toArray, ← hl]; exact h1) (by simpa using ew) ⟨rfl, fin⟩) hs
theorem Pp (its : List Value) (n j : Nat) (u : Value) : Obj.mapSeq (·.setIfInBounds j u) { cls := .type "list", data := .seq its.toArray n } = { cls := .type "list", data := .seq (its.set j u).toArray n } := by
 simp [Obj.mapSeq]
theorem Inv.lst {pins : List (Addr × Obj)} {σ : St} {H : Hp} {s : Shared} {p : Addr} {xs : List V} (I : Inv X pins σ H s) (h : H p = some (.lst xs)) :
  ∃ (its : List Value) (n : Nat), Au xs its ∧ s.heap.get? p = some { cls := .type "list", data := .seq its.toArray n } ∧ xs.length ≤ sizeLine := by
 obtain ⟨z, its, n, r, e⟩ := I.hok p _ h
 exact ⟨its, n, r, e, z⟩
theorem Inv.lstUpd {pins : List (Addr × Obj)} {σ : St} {H : Hp} {s : Shared} {p : Addr} {xs ys : List V} {its its' : List Value} {n n' : Nat} {f : Obj → Obj} (I : Inv X pins σ H s) (h : H p = some (.lst xs))
  (ho : s.heap.get? p = some { cls := .type "list", data := .seq its.toArray n }) (hf : f { cls := .type "list", data := .seq its.toArray n } = { cls := .type "list", data := .seq its'.toArray n' }) (r : Au ys its') (hz : ys.length ≤ sizeLine) (t : Nat) :
  Inv X pins σ (upd H p (.lst ys)) { s with heap := s.heap.update p f, toks := t } := by
 have e : (s.heap.update p f).get? p = some { cls := .type "list", data := .seq its'.toArray n' } := by
  rw [Heap.get?_update_self f ho (by rw [hf] <;> rfl), hf]
 refine I.write (x := p) (e := p) (by rw [h]; trivial) (.inl rfl) (fun b u hb q => (Heap.get?_update_other _ _ (Ne.symm hb)).trans q) ⟨_, e⟩ ?_
 exact ⟨hz, its', n', r, e⟩
def HN : V → V → V → Hp → (Hp → Prop) → Prop := fun o i v H Q => ∃ p xs k j, o = .ref p ∧ i = .int k ∧ H p = some (.lst xs) ∧ ixN xs.length k = some j ∧ Q (upd H p (.lst (xs.set j v)))
theorem TX : PSet X HN := by
 intro pins s σ H o i v ov iv u Q I ro ri rv h
 obtain ⟨p, xs, k, j, rfl, rfl, hp, hj, q⟩ := h
 cases ro
 obtain ⟨t, rfl⟩ := ri
 obtain ⟨its, n, r, ho, hz⟩ := I.lst hp
 obtain ⟨h1, h2, h3, h4⟩ := Qu hj
 have hl := r.length
 have hn := LI
 have I' : Inv X pins σ (upd H p (.lst (xs.set j v))) { s with heap := s.heap.update p (Obj.mapSeq (·.setIfInBounds j u)) } :=
  I.lstUpd hp ho (Pp its n j u) (r.set rv j) (by rw [List.length_set]; exact hz) s.toks
 by_cases h0 : 0 ≤ k
 ·have hk : k.toNat = j := by
   rw [seqIndex_of h0 h4] at h1
   exact Option.some.inj h1
  exact PySem.W.ki_setAt ho h0 (by omega) (by rw [List.size_toArray, ← hl]; exact h4) (by rw [hk]; exact ⟨_, I', q⟩)
 ·have hk : (k + (its.toArray.size : Int)).toNat = j := by
   rw [seqIndex_neg (by omega) h3] at h1
   rw [List.size_toArray, ← hl]
   exact Option.some.inj h1
  exact PySem.W.ki_setBack ho (by omega) (by rw [List.size_toArray, ← hl]; exact h3) (by omega) (by rw [hk]; exact ⟨_, I', q⟩)
theorem OP (lo hi : Option Int) (n : Nat) : (sliceBounds lo hi none n).1 = ((HT.sIx n 0 lo : Nat) : Int) ∧ (sliceBounds lo hi none n).2.1 = ((HT.sIx n n hi : Nat) : Int) ∧ (sliceBounds lo hi none n).2.2 = 1 := by
 refine ⟨?_, ?_, rfl⟩
 ·cases lo with
  | none => simp [sliceBounds, HT.sIx]
  | some i =>
   simp only [sliceBounds, HT.sIx, Option.getD_none, show (1 : Int) > 0 by decide, if_true]
   by_cases h : i < 0
   ·simp only [h, if_true] <;> omega
   ·simp only [h, if_false] <;> omega
 ·cases hi with
  | none => simp [sliceBounds, HT.sIx]
  | some i =>
   simp only [sliceBounds, HT.sIx, Option.getD_none, show (1 : Int) > 0 by decide, if_true]
   by_cases h : i < 0
   ·simp only [h, if_true] <;> omega
   ·simp only [h, if_false] <;> omega
theorem MM (its : List Value) (lo hi : Option Int) : slicePick its.toArray lo hi none = ((its.drop (HT.sIx its.length 0 lo)).take (HT.sIx its.length its.length hi - HT.sIx its.length 0 lo)).toArray := by
 obtain ⟨h1, h2, h3⟩ := OP lo hi its.toArray.size
 unfold slicePick
 rw [h1, h2, h3]
 simp only [sliceRange_one, pick_run, List.size_toArray] <;> rfl
def rSlL (K : PySem.W.Frag) : V → Option Int → Option Int → Hp → VK → Prop := fun x lo hi H Q => ∃ a xs, x = .ref a ∧ SqL K H a xs ∧ ∀ p, H p = none → Q (.ref p) (upd H p (.lst (Mc xs lo hi)))
theorem Tp : SlR X (rSlL X.K) := by
 intro pins s σ H x v vl vu lo hi sl Q I rx hs pl pu h
 obtain ⟨a, xs, rfl, hx, q⟩ := h
 cases rx
 obtain ⟨its, r, ht, hz⟩ := I.list hx
 have hlen := r.length
 refine ⟨"list", _, slot_list_getitem.lookup, ht.isList.typeIs, ?_⟩
 refine wpAny_getItem_list_slice ht.isList hs pl pu .none (by simp) ?_ (by rw [List.size_toArray] <;> omega)
 rw [MM, ← hlen]
 refine ⟨.ref s.heap.objs.size, _, I.laid (t' := s.toks) (o := .lst (Mc xs lo hi)) (fun b ob q => Heap.get?_push_of_some _ q) (Nat.le_refl _) ?_, rfl, q _ (I.hok.fresh (Nat.le_refl _))⟩
 exact ⟨Nat.le_trans (PZ xs lo hi) hz, _, 0, (r.drop (HT.sIx xs.length 0 lo)).take (HT.sIx xs.length xs.length hi - HT.sIx xs.length 0 lo), Heap.get?_push_size _ rfl⟩
def IC : V → Bool
 | .non => true
 | .bl _ => true
 | .int _ => true
 | .str _ => true
 | _ => false
def eqV : V → V → Bool
 | .non, .non => true
 | .bl a, .bl b => a == b
 | .bl a, .int b => (if a then 1 else 0) == b
 | .int a, .bl b => a == (if b then 1 else 0)
 | .int a, .int b => a == b
 | .str a, .str b => a == b
 | _, _ => false
theorem Vb {A : Around} {s : Shared} {y x : V} {u v : Value} (ry : RelV y u) (rx : RelV x v) (fy : IC y = true) (fx : IC x = true) : SeqAt.EqAt A s u v (eqV y x) := by
 cases y with
 | non =>
  cases ry
  cases x with
  | non => cases rx; exact SeqAt.EqAt.same _
  | bl b => cases rx; exact SeqAt.EqAt.none_bool b
  | int b => obtain ⟨t, rfl⟩ := rx; exact SeqAt.EqAt.none_int b t
  | str b => obtain ⟨t, rfl⟩ := rx; exact SeqAt.EqAt.none_str b t
  | _ => exact absurd (show false = true from fx) Bool.false_ne_true
 | bl a =>
  cases ry
  cases x with
  | non => cases rx; exact SeqAt.EqAt.bool_none a
  | bl b => cases rx; exact SeqAt.EqAt.bool_bool a b
  | int b => obtain ⟨t, rfl⟩ := rx; exact SeqAt.EqAt.bool_int a b t
  | str b => obtain ⟨t, rfl⟩ := rx; exact SeqAt.EqAt.bool_str a b t
  | _ => exact absurd (show false = true from fx) Bool.false_ne_true
 | int a =>
  obtain ⟨t', rfl⟩ := ry
  cases x with
  | non => cases rx; exact SeqAt.EqAt.int_none a t'
  | bl b => cases rx; exact SeqAt.EqAt.int_bool a t' b
  | int b => obtain ⟨t, rfl⟩ := rx; exact SeqAt.EqAt.int_int a t' b t
  | str b => obtain ⟨t, rfl⟩ := rx; exact SeqAt.EqAt.int_str a t' b t
  | _ => exact absurd (show false = true from fx) Bool.false_ne_true
 | str a =>
  obtain ⟨t', rfl⟩ := ry
  cases x with
  | non => cases rx; exact SeqAt.EqAt.str_none a t'
  | bl b => cases rx; exact SeqAt.EqAt.str_bool a t' b
  | int b => obtain ⟨t, rfl⟩ := rx; exact SeqAt.EqAt.str_int a t' b t
  | str b => obtain ⟨t, rfl⟩ := rx; exact SeqAt.EqAt.str_str a t' b t
  | _ => exact absurd (show false = true from fx) Bool.false_ne_true
 | _ => exact absurd (show false = true from fy) Bool.false_ne_true
def eqU (x : V) (u : Value) : Bool := match u with
 | .none => eqV .non x
 | .bool b => eqV (.bl b) x
 | .int i _ => eqV (.int i) x
 | .str z _ => eqV (.str z) x
 | _ => false
theorem Sy {x y : V} {u : Value} (r : RelV y u) (f : IC y = true) : eqU x u = eqV y x := by
 cases y with
 | non => cases r; rfl
 | bl b => cases r; rfl
 | int i => obtain ⟨t, rfl⟩ := r; rfl
 | str z => obtain ⟨t, rfl⟩ := r; rfl
 | _ => exact absurd (show false = true from f) Bool.false_ne_true
theorem N1 {x : V} : ∀ {xs : List V} {us : List Value}, Au xs us → xs.all IC = true → us.any (eqU x) = xs.any fun y => eqV y x
 | _, _, .nil, _ => rfl
 | y :: xs, u :: us, .cons r t, f => by
  rw [List.all_cons, Bool.and_eq_true] at f
  rw [List.any_cons, List.any_cons, Sy r f.1, N1 t f.2]
theorem Lq {A : Around} {s : Shared} {x : V} {v : Value} (rx : RelV x v) (fx : IC x = true) : ∀ {xs : List V} {us : List Value}, Au xs us → xs.all IC = true → ∀ u ∈ us, SeqAt.EqAt A s u v (eqU x u)
 | _, _, .nil, _ => fun u hu => by cases hu
 | y :: xs, u :: us, .cons r t, f => fun u' hu => by
  rw [List.all_cons, Bool.and_eq_true] at f
  rcases List.mem_cons.mp hu with rfl | hu
  ·rw [Sy r f.1]; exact Vb r rx f.1 fx
  ·exact Lq rx fx t f.2 u' hu
def inV (x : V) (xs : List V) : Bool := xs.any fun y => eqV y x
def rIn (K : PySem.W.Frag) (neg : Bool) : R2 := fun x y H Q => ∃ p xs, y = .ref p ∧ (SqL K H p xs ∨ SqT K H p xs) ∧ IC x = true ∧ xs.all IC = true ∧ Q (.bl (if neg then !inV x xs else inV x xs)) H
theorem G4 : OpR X (compareOp .In) (rIn X.K false) := by
 intro pins s σ H x y v u Q I rx ry h
 obtain ⟨p, xs, rfl, hq, fx, fs, q⟩ := h
 cases ry
 rcases hq with hq | hq
 ·obtain ⟨its, r, pl, hz⟩ := I.list hq
  refine SeqAt.in_listAt (eqU x) pl.isList (fun w hw => Lq rx fx r fs w (by simpa using hw)) ⟨.bl _, H, I, rfl, ?_⟩
  rw [show its.toArray.any (eqU x) = its.any (eqU x) by simp, N1 r fs]
  exact q
 ·obtain ⟨its, r, pl, hz⟩ := I.tuple hq
  refine SeqAt.in_tupleAt (eqU x) pl (fun w hw => Lq rx fx r fs w (by simpa using hw)) ⟨.bl _, H, I, rfl, ?_⟩
  rw [show its.toArray.any (eqU x) = its.any (eqU x) by simp, N1 r fs]
  exact q
theorem AU : CA X (.builtin "len") (fun xs H Q => ∃ p ys, xs = [.ref p] ∧ (SqL X.K H p ys ∨ SqT X.K H p ys) ∧ Q (.int ys.length) H) := by
 intro pins s σ H xs us Q I r h
 obtain ⟨p, ys, rfl, hq, q⟩ := h
 obtain ⟨u, rfl, rx⟩ := vals1 r
 cases rx
 have hn := LI
 rcases hq with hq | hq
 ·obtain ⟨its, r', pl, hz⟩ := I.list hq
  have hlen := r'.length
  exact Calls.call_len_list pl.isList (by simp only [List.size_toArray] <;> omega) ⟨.int ys.length, H, I.tok _, ⟨s.toks + 1, by rw [List.size_toArray, hlen]⟩, q⟩
 ·obtain ⟨its, r', pl, hz⟩ := I.tuple hq
  have hlen := r'.length
  exact len_tuple pl (by simp only [List.size_toArray] <;> omega) ⟨.int ys.length, H, I.tok _, ⟨s.toks + 1, by rw [List.size_toArray, hlen]⟩, q⟩
theorem Ny : CA X (.type "list") (fun xs H Q => ∃ p ys, xs = [.ref p] ∧ (SqL X.K H p ys ∨ SqT X.K H p ys) ∧ ∀ l, H l = none → Q (.ref l) (upd H l (.lst ys))) := by
 intro pins s σ H xs us Q I r h
 obtain ⟨p, ys, rfl, hq, q⟩ := h
 obtain ⟨u, rfl, rx⟩ := vals1 r
 cases rx
 have fin : ∀ (its : List Value), Au ys its → ys.length ≤ sizeLine → ∀ (h' : Heap) (c' : Nat), (∀ b o', s.heap.get? b = some o' → h'.get? b = some o') →
   h'.get? s.heap.objs.size = some { cls := .type "list", dict := none, data := .seq its.toArray c', slots := #[] } → EP X pins σ Q (.ref s.heap.objs.size) { s with heap := h' } := fun its r' hz h' c' kp e =>
  ⟨.ref s.heap.objs.size, _, I.laid (t' := s.toks) kp (Nat.le_refl _) (show BZ X.prog X.w _ h' _ (.lst ys) from ⟨hz, its, c', r', e⟩), rfl, q _ (I.hok.fresh (Nat.le_refl _))⟩
 rcases hq with hq | hq
 ·obtain ⟨its, r', pl, hz⟩ := I.list hq
  have hlen := r'.length
  obtain ⟨o, ho, hc, n, hd⟩ := pl.isList
  exact call_list_seq p (.inl rfl) ho hc hd (fun h' c' kp e => fin its r' hz h' c' kp e) (by simp only [List.size_toArray] <;> omega)
 ·obtain ⟨its, r', pl, hz⟩ := I.tuple hq
  have hlen := r'.length
  obtain ⟨o, ho, hc, n, hd⟩ := pl
  exact call_list_seq p (.inr rfl) ho hc hd (fun h' c' kp e => fin its r' hz h' c' kp e) (by simp only [List.size_toArray] <;> omega)
def tyV (K : PySem.W.Frag) (T : String) (x : V) (H : Hp) : Prop := match x with
 | .str _ => T = "str"
 | .int _ => T = "int"
 | .ref p => (T = "list" ∧ ∃ xs, SqL K H p xs) ∨ (T = "tuple" ∧ ∃ o, K.lookup p = some o ∧ o.cls = .type "tuple" ∧ o.dict = none) ∨
   (T = "dict" ∧ ((∃ kvs, H p = some (.dK kvs)) ∨ ∃ kvs, H p = some (.dT kvs))) ∨ (T = "set" ∧ ∃ S n, H p = some (.set S n))
 | _ => False
theorem SJ {pins : List (Addr × Obj)} {σ : St} {H : Hp} {s : Shared} {T : String} {x : V} {v : Value} (I : Inv X pins σ H s) (r : RelV x v) (ty : tyV X.K T x H) :
  s.TypeIs v T ∧ ∀ a, v = .ref a → ∃ ob, s.heap.get? a = some ob ∧ ob.dict = none := by
 cases x with
 | str z =>
  obtain ⟨t, rfl⟩ := r
  cases (show T = "str" from ty)
  exact ⟨typeIs_str s z t, fun _ e => nomatch e⟩
 | int i =>
  obtain ⟨t, rfl⟩ := r
  cases (show T = "int" from ty)
  exact ⟨typeIs_int s i t, fun _ e => nomatch e⟩
 | ref p =>
  cases r
  rcases ty with ⟨rfl, xs, hq⟩ | ⟨rfl, o, hk, hc, hd⟩ | ⟨rfl, hk⟩ | ⟨rfl, S, n, hk⟩
  ·obtain ⟨its, _, pl, _⟩ := I.list hq
   refine ⟨pl.isList.typeIs, fun a e => ?_⟩
   cases e
   obtain ⟨o, n, e, c, hd, _⟩ := pl
   exact ⟨o, e, hd⟩
  ·refine ⟨⟨o, I.kIn p o hk, hc⟩, fun a e => ?_⟩
   cases e
   exact ⟨o, I.kIn _ o hk, hd⟩
  ·have z : ∃ o, s.heap.get? p = some o ∧ o.ExactDict := by
    rcases hk with ⟨kvs, hk⟩ | ⟨kvs, hk⟩
    ·obtain ⟨_, _, _, _, o, _, _, e, ex, _⟩ := I.hok p _ hk
     exact ⟨o, e, ex⟩
    ·obtain ⟨_, _, _, _, o, _, _, e, ex, _⟩ := I.hok p _ hk
     exact ⟨o, e, ex⟩
   obtain ⟨o, e, ex⟩ := z
   refine ⟨⟨o, e, ex.1⟩, fun a e2 => ?_⟩
   cases e2
   exact ⟨o, e, ex.2.1⟩
  ·obtain ⟨o, _, _, _, e, ex, _⟩ := I.hok p _ hk
   refine ⟨⟨o, e, ex.1⟩, fun a e2 => ?_⟩
   cases e2
   exact ⟨o, e, ex.2.1⟩
 | _ => exact False.elim ty
def WZ (K : PySem.W.Frag) (T : String) (r : V → List V → Hp → VK → Prop) (to : TE) : TE := fun σ H Q => to σ H fun x H1 => tyV K T x H1 ∧ r x [] H1 Q
def tBM (K : PySem.W.Frag) (T : String) (r : V → List V → Hp → VK → Prop) (to : TE) (t : TA) : TE := fun σ H Q => to σ H fun x H1 => tyV K T x H1 ∧ t σ H1 fun xs H2 => r x xs H2 Q
variable {o e : Expr} {es : List Expr} {to : TE} {t : TA} {name : Str} {apos cpos : Pos} {T id : String} {r : V → List V → Hp → VK → Prop}
theorem SL (pa : PlainAttrs T) (slot : Slot T name id) (hty : typeOf (.builtin id) = pure (.type "method_descriptor")) (hm : MtR X id r) (ho : PE X o to)
  (hbase : attributeBase o name X.env (eval o X.env) = eval o X.env := by rfl) (hline : (apos.endLine == cpos.line) = true := by rfl) : PE X (.Call (.Attribute o name apos) [] [] cpos) (WZ X.K T r to) := by
 intro pins s σ H Q I h
 refine wpAny_Call_method0_late hbase hline (thn (ho pins s σ H _ I h) fun v s1 ⟨x, H1, I1, r1, ty, q1⟩ => ?_)
 obtain ⟨h1, h2⟩ := SJ I1 r1 ty
 exact ⟨T, id, pa, slot, hty, h1, h2, Calls.callWith_builtin rfl (PySem.evalArgs_none (hm pins s1 σ H1 x [] v [] Q I1 r1 .nil q1))⟩
theorem Uh (pa : PlainAttrs T) (slot : Slot T name id) (hty : typeOf (.builtin id) = pure (.type "method_descriptor")) (hm : MtR X id r) (ho : PE X o to) (ha : PA X (e :: es) t)
  (hbase : attributeBase o name X.env (eval o X.env) = eval o X.env := by rfl)
  (hfew : ((backTo cpos (starEach (e :: es) X.env)).all (fun x => !x.1) && (backToKw cpos (keywordEach [] X.env)).all (fun x => x.1.isSome)
   && decide ((e :: es).length + ([] : List Keyword).length + (if ([] : List Keyword).isEmpty then 0 else 1) < 30)) = true := by rfl)
  (hline : (apos.endLine == cpos.line) = true := by rfl) (hs : starEach (e :: es) X.env = (false, eval e X.env) :: starEach es X.env := by rfl) (hplain : (backTo cpos (starEach es X.env)).any (·.1) = false := by rfl) :
  PE X (.Call (.Attribute o name apos) (e :: es) [] cpos) (tBM X.K T r to t) := by
 intro pins s σ H Q I h
 refine wpAny_Call_method_late hbase hfew hline rfl (thn (ho pins s σ H _ I h) fun v s1 ⟨x, H1, I1, r1, ty, q1⟩ => ?_)
 obtain ⟨h1, h2⟩ := SJ I1 r1 ty
 refine ⟨T, id, pa, slot, hty, h1, h2, ?_⟩
 have hA := ha cpos pins s1 σ H1 _ I1 q1
 rw [hs] at hA ⊢
 refine Calls.callWith_builtin (by show (false || (backTo cpos (starEach es X.env)).any (·.1)) = false; rw [hplain] <;> rfl) (Calls.evalArgs_plain ?_)
 exact thn hA fun us s2 ⟨vs, H2, I2, r2, q2⟩ => hm pins s2 σ H2 x vs v us Q I2 r1 r2 q2
end
end L2
namespace L2
open PySem PySem.Spec PyProof.Rows
def MtM (X : Cx) (id : String) (r : V → List V → Hp → VK → Prop) : Prop :=
 ∀ (pins : List (Addr × Obj)) (s : Shared) (σ : St) (H : Hp) (x : V) (xs : List V) (v : Value) (us : List Value) (Q : VK), Inv X pins σ H s → RelV x v → Au xs us → r x xs H Q →
  wpAny (model X.prog X.w) X.A (call (.builtin id) (v :: us)) (EP X pins σ Q) X.xe s
theorem Au.one : ∀ {x : V} {us : List Value}, Au [x] us → ∃ u, us = [u] ∧ RelV x u
 | _, _, .cons r .nil => ⟨_, rfl, r⟩
theorem Au.zero : ∀ {us : List Value}, Au [] us → us = []
 | _, .nil => rfl
theorem Au.dropLast {xs : List V} {us : List Value} (h : Au xs us) : Au xs.dropLast us.dropLast := by
 induction h with
 | nil => exact .nil
 | cons r t ih =>
  cases t with
  | nil => exact .nil
  | cons q t' => exact .cons r ih
theorem P3 {α : Type} (l : List α) : l.eraseIdx (l.length - 1) = l.dropLast := by
 induction l with
 | nil => rfl
 | cons a r ih =>
  cases r with
  | nil => rfl
  | cons b r =>
   have e : (a :: b :: r).length - 1 = ((b :: r).length - 1) + 1 := by
    have h1 : (a :: b :: r).length = r.length + 2 := rfl
    have h2 : (b :: r).length = r.length + 1 := rfl
    omega
   rw [e, List.eraseIdx_cons_succ, ih]
   all_goals rfl
section
variable {X : Cx} {pins : List (Addr × Obj)} {σ : St} {H : Hp} {s : Shared} {l b : Addr} {xs ys zs : List V}
theorem Inv.lset {its its' : List Value} {n : Nat} {f : Array Value → Array Value} {t' : Nat} (I : Inv X pins σ H s) (hH : H l = some (.lst xs))
  (e : s.heap.get? l = some { cls := .type "list", data := .seq its.toArray n }) (hf : f its.toArray = its'.toArray) (hv : Au ys its') (hz : ys.length ≤ sizeLine) :
  Inv X pins σ (upd H l (.lst ys)) { s with heap := s.heap.update l (Obj.mapSeq f), toks := t' } := by
 have q := PySem.IsL.update e f
 rw [hf] at q
 refine I.write (x := l) (e := l) (by rw [hH]; exact trivial) (.inl rfl) (fun b' u hb hu => (Heap.get?_update_other s.heap (Obj.mapSeq f) (Ne.symm hb)).trans hu) ⟨_, q⟩ ?_
 exact ⟨hz, its', _, hv, q⟩
theorem Inv.lnew {its : List Value} {t' : Nat} (I : Inv X pins σ H s) (hv : Au ys its) (hz : ys.length ≤ sizeLine) :
  Inv X pins σ (upd H s.heap.objs.size (.lst ys)) { s with heap := s.heap.push { cls := .type "list", data := .seq its.toArray }, toks := t' } :=
 I.laid (fun _ _ q => Heap.get?_push_of_some _ q) (Nat.le_refl _) ⟨hz, its, 0, hv, Heap.get?_push_size _ rfl⟩
theorem Inv.fresh (I : Inv X pins σ H s) : H s.heap.objs.size = none := I.hok.fresh (Nat.le_refl _)
theorem Inv.lstM (I : Inv X pins σ H s) (hH : H l = some (.lst xs)) : xs.length ≤ sizeLine ∧ ∃ (its : List Value) (n : Nat), Au xs its ∧ xs.length = its.length ∧ s.heap.get? l = some { cls := .type "list", data := .seq its.toArray n } := by
 obtain ⟨z, its, n, r, e⟩ := I.hok l _ hH
 exact ⟨z, its, n, r, r.length, e⟩
end
section
variable {X : Cx}
def UT : V → List V → Hp → VK → Prop := fun x vs H Q => ∃ l xs y, x = .ref l ∧ vs = [y] ∧ H l = some (.lst xs) ∧ xs.length < sizeLine ∧ Q .non (upd H l (.lst (xs ++ [y])))
theorem NG : MtM X "list.append" UT := by
 intro pins s σ H x vs v us Q I rx rv h
 obtain ⟨l, xs, y, rfl, rfl, hH, hz, q⟩ := h
 cases rx
 obtain ⟨u, rfl, ru⟩ := rv.one
 obtain ⟨z, its, n, r, hl, e⟩ := I.lstM hH
 refine call_meets F.slot_list_append ⟨_, e, rfl⟩ F.entry_list_append (F.args_list_append_2 _ _) (PySem.list_append l its.toArray n u (by rw [List.size_toArray]; omega)) ⟨e, ?_⟩
 refine ⟨.non, _, I.lset (its' := its ++ [u]) hH e (by simp) (r.append (.cons ru .nil)) ?_, rfl, q⟩
 rw [List.length_append, List.length_singleton]
 omega
def rPop : V → List V → Hp → VK → Prop := fun x vs H Q => ∃ l xs y, x = .ref l ∧ vs = [] ∧ H l = some (.lst xs) ∧ xs[xs.length - 1]? = some y ∧ Q y (upd H l (.lst xs.dropLast))
theorem XZ : MtM X "list.pop" rPop := by
 intro pins s σ H x vs v us Q I rx rv h
 obtain ⟨l, xs, y, rfl, rfl, hH, hy, q⟩ := h
 cases rx
 have hus := rv.zero
 subst hus
 obtain ⟨z, its, n, r, hl, e⟩ := I.lstM hH
 obtain ⟨u, hu, ru⟩ := r.get hy
 have hy' : its.toArray[its.toArray.size - 1]? = some u := by
  show its.toArray[its.length - 1]? = some u
  rw [← Array.getElem?_toList, ← hl]
  exact hu
 refine call_meets F.slot_list_pop ⟨_, e, rfl⟩ F.entry_list_pop (F.args_list_pop_1 _) (MeetsSeq.list_pop_last l its.toArray n u hy' (by rw [List.size_toArray]; omega)) ⟨e, ?_⟩
 refine ⟨y, _, I.lset (its' := its.dropLast) hH e ?_ r.dropLast ?_, ru, q⟩
 ·show its.toArray.eraseIdxIfInBounds (its.toArray.size - 1) = its.dropLast.toArray
  rw [List.size_toArray, List.eraseIdxIfInBounds_toArray, P3]
 ·rw [List.length_dropLast]
  omega
def rCat : R2 := fun x y H Q => ∃ l b xs zs, x = .ref l ∧ y = .ref b ∧ H l = some (.lst xs) ∧ H b = some (.lst zs) ∧ xs.length + zs.length ≤ sizeLine ∧ ∀ p, H p = none → Q (.ref p) (upd H p (.lst (xs ++ zs)))
theorem Vs : OpR X (binaryOp .Add) rCat := by
 intro pins s σ H x y v u Q I rx ry h
 obtain ⟨l, b, xs, zs, rfl, rfl, hH, hB, hz, q⟩ := h
 cases rx
 cases ry
 obtain ⟨z, its, n, r, hl, e⟩ := I.lstM hH
 obtain ⟨z2, its2, n2, r2, hl2, e2⟩ := I.lstM hB
 refine PySem.P.add_list e e2 ?_ (by rw [List.size_toArray, List.size_toArray]; omega)
 have ea : its.toArray ++ its2.toArray = (its ++ its2).toArray := by simp
 rw [ea]
 exact ⟨.ref _, _, I.lnew (t' := s.toks) (r.append r2) (by rw [List.length_append]; omega), rfl, q _ I.fresh⟩
end
section
variable {prog : Program} {w : World} {A : Around} {E : Value → Shared → Prop} {s : Shared}
set_option maxRecDepth 100000 in
end
section
variable {X : Cx}
end
end L2
namespace L2
open PySem PySem.Spec PyProof.Rows
section
variable {κ : Type} [DecidableEq κ]
def Bz (kvs : List (κ × V)) (k : κ) : Option V := (kvs.find? fun kv => decide (kv.1 = k)).map (·.2)
def DC (kvs : List (κ × V)) (k : κ) (v : V) : List (κ × V) :=
 if (kvs.any fun kv => decide (kv.1 = k)) = true then kvs.map (fun kv => if kv.1 = k then (kv.1, v) else kv) else kvs ++ [(k, v)]
def Do (kvs : List (κ × V)) (k : κ) : List (κ × V) := kvs.filter fun kv => decide (kv.1 ≠ k)
theorem Bb {p : κ × V} {r : List (κ × V)} {k : κ} (e : p.1 = k) : Bz (p :: r) k = some p.2 := by simp [Bz, List.find?_cons, e]
theorem BV {p : κ × V} {r : List (κ × V)} {k : κ} (e : ¬ p.1 = k) : Bz (p :: r) k = Bz r k := by simp [Bz, List.find?_cons, e]
theorem FX (k : κ) : ∀ kvs : List (κ × V), (kvs.any fun kv => decide (kv.1 = k)) = (Bz kvs k).isSome
 | [] => rfl
 | p :: r => by
  rw [List.any_cons]
  by_cases e : p.1 = k
  ·simp only [Bb e, decide_eq_true e, Bool.true_or, Option.isSome_some]
  ·rw [BV e, decide_eq_false e, Bool.false_or]; exact FX k r
theorem Oi (k j : κ) (y : V) : ∀ kvs : List (κ × V), Bz (kvs.map fun kv => if kv.1 = k then (kv.1, y) else kv) j = (Bz kvs j).map fun x => if j = k then y else x
 | [] => rfl
 | p :: r => by
  have ih := Oi k j y r
  rw [List.map_cons]
  by_cases h : p.1 = k
  ·rw [if_pos h]
   by_cases e : p.1 = j
   ·rw [Bb (p := (p.1, y)) e, Bb e, Option.map_some, if_pos (e.symm.trans h)]
   ·rw [BV (p := (p.1, y)) e, BV e, ih]
  ·rw [if_neg h]
   by_cases e : p.1 = j
   ·rw [Bb (p := p) e, Bb e, Option.map_some, if_neg (fun z => h (e.trans z))]
   ·rw [BV (p := p) e, BV e, ih]
theorem NO (k j : κ) (y : V) : ∀ kvs : List (κ × V), Bz kvs k = none → Bz (kvs ++ [(k, y)]) j = if j = k then some y else Bz kvs j
 | [], _ => by
  by_cases e : k = j
  ·rw [if_pos e.symm]; exact Bb (p := (k, y)) e
  ·rw [if_neg (fun z => e z.symm)]; exact BV (p := (k, y)) e
 | p :: r, hn => by
  rw [List.cons_append]
  have hk : ¬ p.1 = k := fun z => by rw [Bb z] at hn; cases hn
  rw [BV hk] at hn
  have ih := NO k j y r hn
  by_cases e : p.1 = j
  ·rw [Bb e, Bb e, if_neg (fun z => hk (e.trans z))]
  ·rw [BV e, BV e, ih]
theorem LV (kvs : List (κ × V)) (k j : κ) (y : V) : Bz (DC kvs k y) j = if j = k then some y else Bz kvs j := by
 unfold DC
 by_cases a : (kvs.any fun kv => decide (kv.1 = k)) = true
 ·rw [if_pos a, Oi]
  rw [FX] at a
  by_cases e : j = k
  ·obtain ⟨x, hx⟩ := Option.isSome_iff_exists.mp a
   rw [if_pos e, e, hx, Option.map_some, if_pos rfl]
  ·rw [if_neg e]
   cases Bz kvs j with
   | none => rfl
   | some x => rw [Option.map_some, if_neg e]
 ·rw [if_neg a]
  refine NO k j y kvs ?_
  rw [FX] at a
  cases q : Bz kvs k with
  | none => rfl
  | some x => rw [q] at a; exact (a rfl).elim
theorem Go (kvs : List (κ × V)) (k : κ) (v : V) : (DC kvs k v).length ≤ kvs.length + 1 := by
 unfold DC
 split
 ·rw [List.length_map]; omega
 ·rw [List.length_append, List.length_cons, List.length_nil]; omega
theorem Fk.isSome_eq {o : Option V} {u : Option Value} (r : Fk o u) : o.isSome = u.isSome := by
 cases o with
 | none => cases u with
  | none => rfl
  | some _ => exact (show False from r).elim
 | some _ => cases u with
  | none => exact (show False from r).elim
  | some _ => rfl
theorem Fk.getD {o : Option V} {u : Option Value} {d : V} {d' : Value} (r : Fk o u) (rd : RelV d d') : RelV (o.getD d) (u.getD d') := by
 cases o with
 | none => cases u with
  | none => exact rd
  | some _ => exact (show False from r).elim
 | some _ => cases u with
  | none => exact (show False from r).elim
  | some _ => exact r
theorem KV.val {kvs : List (κ × V)} {vs : List (κ × Value)} (r : KV kvs vs) (k : κ) : Fk (Bz kvs k) (valueAt vs k) := by
 unfold KV at r
 induction r with
 | nil => exact True.intro
 | @cons p q ps qs h t ih =>
  obtain ⟨h1, h2⟩ := h
  by_cases e : p.1 = k
  ·have e' : q.1 = k := h1.symm.trans e
   have b : valueAt (q :: qs) k = some q.2 := by simp [valueAt, List.find?_cons, e']
   rw [Bb e, b]; exact h2
  ·have e' : ¬ q.1 = k := fun z => e (h1.trans z)
   have b : valueAt (q :: qs) k = valueAt qs k := by simp [valueAt, List.find?_cons, e']
   rw [BV e, b]; exact ih
theorem KV.any {kvs : List (κ × V)} {vs : List (κ × Value)} (r : KV kvs vs) (k : κ) : (kvs.any fun kv => decide (kv.1 = k)) = vs.any fun kv => decide (kv.1 = k) := by
 unfold KV at r
 induction r with
 | nil => rfl
 | cons h t ih => rw [List.any_cons, List.any_cons, ih, h.1]
theorem KV.repl {kvs : List (κ × V)} {vs : List (κ × Value)} (r : KV kvs vs) (k : κ) {y : V} {u : Value} (ry : RelV y u) :
  KV (kvs.map fun kv => if kv.1 = k then (kv.1, y) else kv) (vs.map fun kv => if kv.1 = k then (kv.1, u) else kv) := by
 unfold KV at r ⊢
 induction r with
 | nil => exact .nil
 | @cons p q ps qs h t ih =>
  rw [List.map_cons, List.map_cons]
  refine .cons ?_ ih
  obtain ⟨h1, h2⟩ := h
  by_cases e : p.1 = k
  ·rw [if_pos e, if_pos (h1.symm.trans e)]; exact ⟨h1, ry⟩
  ·rw [if_neg e, if_neg (fun z => e (h1.trans z))]; exact ⟨h1, h2⟩
theorem KV.put {kvs : List (κ × V)} {vs : List (κ × Value)} (r : KV kvs vs) (k : κ) {y : V} {u : Value} (ry : RelV y u) : KV (DC kvs k y) (stored vs k u) := by
 unfold DC stored
 rw [r.any k]
 by_cases e : (vs.any fun kv => decide (kv.1 = k)) = true
 ·rw [if_pos e, if_pos e]; exact r.repl k ry
 ·rw [if_neg e, if_neg e]; exact Paired.snoc r ⟨rfl, ry⟩
theorem KV.drop {kvs : List (κ × V)} {vs : List (κ × Value)} (r : KV kvs vs) (k : κ) : KV (Do kvs k) (without vs k) := by
 unfold KV at r ⊢
 unfold Do without
 induction r with
 | nil => exact .nil
 | @cons p q ps qs h t ih =>
  obtain ⟨h1, h2⟩ := h
  rw [List.filter_cons, List.filter_cons]
  by_cases e : p.1 = k
  ·have a : ¬ decide (p.1 ≠ k) = true := by simp [e]
   have b : ¬ decide (q.1 ≠ k) = true := by simp [h1.symm.trans e]
   rw [if_neg a, if_neg b]; exact ih
  ·have e' : ¬ q.1 = k := fun z => e (h1.trans z)
   have a : decide (p.1 ≠ k) = true := by simp [e]
   have b : decide (q.1 ≠ k) = true := by simp [e']
   rw [if_pos a, if_pos b]; exact .cons ⟨h1, h2⟩ ih
theorem KV.length {kvs : List (κ × V)} {vs : List (κ × Value)} (r : KV kvs vs) : kvs.length = vs.length := Paired.length r
theorem TN (kvs : List (κ × V)) (k : κ) : (Do kvs k).length ≤ kvs.length := List.length_filter_le _ _
end
theorem LX {P : Program} {w : World} {k : Key} {u : Value} (r : RelV (kV k) u) : (BG P w).is k u = true := by
 cases k with
 | inl i => obtain ⟨t, e⟩ := (show ∃ t, u = Value.int i t from r); subst e; exact Om P w i t
 | inr x => obtain ⟨t, e⟩ := (show ∃ t, u = Value.str x t from r); subst e; exact Pc P w x t
theorem M5 {P : Program} {w : World} : ∀ {ks : List Key} {us : List Value}, Au (ks.map kV) us → ItemsAre (BG P w) ks us
 | [], _, r => by rw [List.map_nil] at r; cases r; exact .nil
 | k :: ks, _, r => by
  rw [List.map_cons] at r
  cases r with
  | cons h t => exact .cons (LX h) (M5 t)
abbrev KT (H : Hp) : List (List Key × V) → List (List Key × Addr × Value) → Prop := Paired fun p q => p.1 = q.1 ∧ H q.2.1 = some (.tup (p.1.map kV)) ∧ RelV p.2 q.2.2
theorem KT.val {H : Hp} {kvs : List (List Key × V)} {xs : List (List Key × Addr × Value)} (r : KT H kvs xs) (k : List Key) : Fk (Bz kvs k) ((atKey xs k).map (·.2)) := by
 induction r with
 | nil => exact True.intro
 | @cons p q ps qs h t ih =>
  obtain ⟨h1, _, h2⟩ := h
  by_cases e : p.1 = k
  ·have e' : q.1 = k := h1.symm.trans e
   have b : atKey (q :: qs) k = some q.2 := by simp [atKey, List.find?_cons, e']
   rw [Bb e, b]; exact h2
  ·have e' : ¬ q.1 = k := fun z => e (h1.trans z)
   have b : atKey (q :: qs) k = atKey qs k := by simp [atKey, List.find?_cons, e']
   rw [BV e, b]; exact ih
theorem KT.repl {H : Hp} {kvs : List (List Key × V)} {xs : List (List Key × Addr × Value)} (r : KT H kvs xs) (k : List Key) {y : V} {u : Value} (ry : RelV y u) :
  KT H (kvs.map fun kv => if kv.1 = k then (kv.1, y) else kv) (xs.map (putAt k u)) := by
 induction r with
 | nil => exact .nil
 | @cons p q ps qs h t ih =>
  rw [List.map_cons, List.map_cons]
  refine .cons ?_ ih
  obtain ⟨h1, h2, h3⟩ := h
  unfold putAt
  by_cases e : p.1 = k
  ·rw [if_pos e, if_pos (h1.symm.trans e)]; exact ⟨h1, h2, ry⟩
  ·rw [if_neg e, if_neg (fun z => e (h1.trans z))]; exact ⟨h1, h2, h3⟩
theorem KT.put {H : Hp} {kvs : List (List Key × V)} {xs : List (List Key × Addr × Value)} (r : KT H kvs xs) (k : List Key) {b : Addr} {y : V} {u : Value} (hb : H b = some (.tup (k.map kV))) (ry : RelV y u) :
  KT H (DC kvs k y) (storedH xs k b u) := by
 have e : (kvs.any fun kv => decide (kv.1 = k)) = (atKey xs k).isSome := by
  rw [FX, (r.val k).isSome_eq, Option.isSome_map]
 unfold DC storedH
 rw [e]
 by_cases q : (atKey xs k).isSome = true
 ·rw [if_pos q, if_pos q]; exact r.repl k ry
 ·rw [if_neg q, if_neg q]; exact Paired.snoc r ⟨rfl, hb, ry⟩
theorem KT.keeps {H H' : Hp} {kvs : List (List Key × V)} {xs : List (List Key × Addr × Value)} (r : KT H kvs xs) (ht : ∀ b ys, H b = some (.tup ys) → H' b = some (.tup ys)) : KT H' kvs xs :=
 Paired.mapP r fun _ _ z => ⟨z.1, ht _ _ z.2.1, z.2.2⟩
section
variable {P : Program} {w : World} {H : Hp} {h : Heap} {a : Addr}
theorem Uk {u : HO} (ok : HOk P w H h) (e : Rd H a u) : BZ P w H h a u := e.ok ok
theorem Kb {kvs : List (Key × V)} (ok : HOk P w H h) (e : Rd H a (.dK kvs)) : kvs.length ≤ sizeLine ∧ (a == sysModules) = false ∧ ∃ vs, KV kvs vs ∧ h.DictOf (BG P w) a vs :=
 show BZ P w H h a (.dK kvs) from Uk ok e
theorem Ni {kvs : List (Key × V)} (ok : HOk P w H h) (e : H a = some (.dK kvs)) : kvs.length ≤ sizeLine ∧ (a == sysModules) = false ∧ ∃ vs, KV kvs vs ∧ h.DictOf (BG P w) a vs := Kb ok (.inl e)
theorem KC {ks : List Key} (ok : HOk P w H h) (e : H a = some (.tup (ks.map kV))) : (tupleKind (BG P w)).is h ks a := by
 obtain ⟨_, its, r, o, h1, h2, n, h3⟩ := (show BZ P w H h a (.tup (ks.map kV)) from ok a _ e)
 exact ⟨o, its.toArray, n, h1, h2, h3, by simpa using M5 r⟩
theorem Lx {kvs : List (List Key × V)} (ok : HOk P w H h) (e : Rd H a (.dT kvs)) : kvs.length ≤ sizeLine ∧ (a == sysModules) = false ∧
  ∃ xs, KT H kvs xs ∧ h.DictOfH (tupleKind (BG P w)) a xs := by
 obtain ⟨z, y, xs, r, o, es, ep, h1, h2, h3, h4, h5⟩ := (show BZ P w H h a (.dT kvs) from Uk ok e)
 refine ⟨z, y, xs, r, o, es, ep, h1, h2, h3, h4, fun x hx => ?_, h5⟩
 have all : ∀ {l : List (List Key × V)} {m : List (List Key × Addr × Value)}, KT H l m → ∀ x ∈ m, (tupleKind (BG P w)).is h x.1 x.2.1 := by
  intro l m q
  induction q with
  | nil => intro x hx; exact nomatch hx
  | @cons p q ps qs hq t ih =>
   intro x hx
   rcases List.mem_cons.mp hx with e | hx
   ·subst e
    exact KC ok (by rw [← hq.1]; exact hq.2.1)
   ·exact ih x hx
 exact all r x hx
theorem dt_of {kvs : List (List Key × V)} (ok : HOk P w H h) (e : H a = some (.dT kvs)) : kvs.length ≤ sizeLine ∧ (a == sysModules) = false ∧
  ∃ xs, KT H kvs xs ∧ h.DictOfH (tupleKind (BG P w)) a xs := Lx ok (.inl e)
end
def GK (H : Hp) (a : Addr) (y : V) (r : Option V) : Prop :=
 (∃ kvs k, Rd H a (.dK kvs) ∧ y = kV k ∧ r = Bz kvs k) ∨ ∃ kvs k b, Rd H a (.dT kvs) ∧ y = .ref b ∧ H b = some (.tup (k.map kV)) ∧ r = Bz kvs k
def Pe (H : Hp) (a : Addr) (y v : V) (H' : Hp) : Prop :=
 (∃ kvs k, H a = some (.dK kvs) ∧ y = kV k ∧ kvs.length < sizeLine ∧ H' = upd H a (.dK (DC kvs k v))) ∨
 ∃ kvs k b, H a = some (.dT kvs) ∧ y = .ref b ∧ H b = some (.tup (k.map kV)) ∧ kvs.length < sizeLine ∧ H' = upd H a (.dT (DC kvs k v))
theorem GK.k {H : Hp} {a : Addr} {kvs : List (Key × V)} {k : Key} (e : H a = some (.dK kvs)) : GK H a (kV k) (Bz kvs k) := .inl ⟨kvs, k, .inl e, rfl, rfl⟩
theorem Pe.k {H : Hp} {a : Addr} {kvs : List (Key × V)} {k : Key} {v : V} (e : H a = some (.dK kvs)) (hl : kvs.length < sizeLine) : Pe H a (kV k) v (upd H a (.dK (DC kvs k v))) := .inl ⟨kvs, k, e, rfl, hl, rfl⟩
section
variable {X : Cx} {pins : List (Addr × Obj)} {σ : St} {H : Hp} {s : Shared} {a : Addr} {y v : V} {u r : Value} {o : Option V} {A : Around} {E : Value → Shared → Prop}
theorem Inv.big (I : Inv X pins σ H s) : sysModules < s.heap.objs.size := by
 have h : mainGlobals < s.heap.objs.size := (I.mod.glob.keeps I.bk).lt
 exact Nat.lt_trans (by decide) h
theorem Rz {Q : Value → Shared → Prop} (hu : A.units + 1 < cLine) (I : Inv X pins σ H s) (g : GK H a y (some v)) (ry : RelV y u) (h : ∀ w' s', Inv X pins σ H s' → RelV v w' → Q w' s') :
  wpAny (model X.prog X.w) A (getItem (.ref a) u) Q E s := by
 rcases g with ⟨kvs, k, e, ey, l⟩ | ⟨kvs, k, b, e, ey, eb, l⟩
 ·subst ey
  obtain ⟨z, hd, vs, rel, dd⟩ := Kb I.hok e
  obtain ⟨w', hw, rw'⟩ := Fk.some_of (v := v) (o := valueAt vs k) (by rw [l]; exact rel.val k)
  exact wpAny_getItem_of (LX ry) dd.mapOf hw (h w' _ (I.tok _) rw')
 ·subst ey
  cases (show u = Value.ref b from ry)
  obtain ⟨z, hd, xs, rel, dd⟩ := Lx I.hok e
  obtain ⟨w', hw, rw'⟩ := Fk.some_of (v := v) (o := (atKey xs k).map (·.2)) (by rw [l]; exact rel.val k)
  obtain ⟨p, hp, hp2⟩ := Option.map_eq_some_iff.mp hw
  refine wpAny_getItem_heap (tupleKind_room_in1 hu) (KC I.hok eb) dd hp ?_
  rw [hp2]
  exact h w' _ (I.tok _) rw'
theorem d_in {Q : Value → Shared → Prop} (hu : A.units + 1 < cLine) (I : Inv X pins σ H s) (g : GK H a y o) (ry : RelV y u) (h : ∀ s', Inv X pins σ H s' → Q (.bool o.isSome) s') :
  wpAny (model X.prog X.w) A (compareOp .In u (.ref a)) Q E s := by
 rcases g with ⟨kvs, k, e, ey, l⟩ | ⟨kvs, k, b, e, ey, eb, l⟩
 ·subst ey
  obtain ⟨z, hd, vs, rel, dd⟩ := Kb I.hok e
  refine wpAny_in_of (LX ry) hd dd.mapOf ?_
  rw [← (rel.val k).isSome_eq, ← l]
  exact h _ (I.tok _)
 ·subst ey
  cases (show u = Value.ref b from ry)
  obtain ⟨z, hd, xs, rel, dd⟩ := Lx I.hok e
  refine wpAny_in_heap (tupleKind_room_in1 hu) (KC I.hok eb) hd dd ?_
  have q := (rel.val k).isSome_eq
  rw [Option.isSome_map] at q
  rw [← q, ← l]
  exact h _ (I.tok _)
theorem Tt {Q : Value → Shared → Prop} (hu : A.units + 1 < cLine) (I : Inv X pins σ H s) (g : GK H a y o) (ry : RelV y u) (h : ∀ s', Inv X pins σ H s' → Q (.bool (!o.isSome)) s') :
  wpAny (model X.prog X.w) A (compareOp .NotIn u (.ref a)) Q E s := by
 rcases g with ⟨kvs, k, e, ey, l⟩ | ⟨kvs, k, b, e, ey, eb, l⟩
 ·subst ey
  obtain ⟨z, hd, vs, rel, dd⟩ := Kb I.hok e
  refine wpAny_notIn_of (LX ry) hd dd.mapOf ?_
  rw [← (rel.val k).isSome_eq, ← l]
  exact h _ (I.tok _)
 ·subst ey
  cases (show u = Value.ref b from ry)
  obtain ⟨z, hd, xs, rel, dd⟩ := Lx I.hok e
  refine wpAny_notIn_heap (tupleKind_room_in1 hu) (KC I.hok eb) hd dd ?_
  have q := (rel.val k).isSome_eq
  rw [Option.isSome_map] at q
  rw [← q, ← l]
  exact h _ (I.tok _)
theorem Iy {h' : Heap} {t' : Nat} {ob : HO} (I : Inv X pins σ H s) (mu : Mut (H a)) (hs : Heap.SameBut a s.heap h') (he : ∃ q, h'.get? a = some q) (new : BZ X.prog X.w (upd H a ob) h' a ob) :
  Inv X pins σ (upd H a ob) { s with heap := h', toks := t' } :=
 I.write (x := a) (e := a) mu (.inl rfl) (fun b q hb z => (hs.2 b hb).trans z) he new
theorem OO {P : Program} {w : World} {H' : Hp} {h' : Heap} {kvs : List (Key × V)} {vs : List (Key × Value)} (z : kvs.length ≤ sizeLine) (hd : (a == sysModules) = false) (rel : KV kvs vs) (dd : h'.DictOf (BG P w) a vs) :
  BZ P w H' h' a (.dK kvs) := ⟨z, hd, vs, rel, dd⟩
theorem Rb {H' : Hp} {Q : Unit → Shared → Prop} (hu : A.units + 1 < cLine) (I : Inv X pins σ H s) (g : Pe H a y v H') (ry : RelV y u) (rv : RelV v r) (h : ∀ s', Inv X pins σ H' s' → Q () s') :
  wpAny (model X.prog X.w) A (setItem (.ref a) u r) Q E s := by
 rcases g with ⟨kvs, k, e, ey, l, eH⟩ | ⟨kvs, k, b, e, ey, eb, l, eH⟩
 ·subst ey eH
  obtain ⟨z, hd, vs, rel, dd⟩ := Ni I.hok e
  have hz : vs.length ≤ sizeLine := by rw [← rel.length]; exact z
  have hl : (DC kvs k v).length ≤ sizeLine := by have := Go kvs k v; omega
  refine wpAny_setItem_pairs (hsz := hz) (LX ry) dd fun h' dd' hs => h _ ?_
  have he : ∃ q, h'.get? a = some q := let ⟨q, _, _, hq, _⟩ := dd'; ⟨q, hq⟩
  exact Iy I (by rw [e]; exact True.intro) hs he (OO hl hd (rel.put k rv) dd')
 ·subst ey eH
  cases (show u = Value.ref b from ry)
  obtain ⟨z, hd, xs, rel, dd⟩ := dt_of I.hok e
  have hz : xs.length ≤ sizeLine := by rw [← Paired.length rel]; exact z
  have hl : (DC kvs k v).length ≤ sizeLine := by have := Go kvs k v; omega
  refine wpAny_setItem_heap (hsz := hz) (tupleKind_room_in1 hu) (KC I.hok eb) dd fun h' dd' hs => h _ ?_
  obtain ⟨q, es, ep, hq, h2, h3, h4, _, h5⟩ := dd'
  refine Iy I (by rw [e]; exact True.intro) hs ⟨q, hq⟩ ⟨hl, hd, _, (rel.put k eb rv).keeps fun c ys ec => ?_, q, es, ep, hq, h2, h3, h4, h5⟩
  rw [AK (Bv ec e (fun z => nomatch z))]
  exact ec
end
section
variable {X : Cx} {pins : List (Addr × Obj)} {σ : St} {H : Hp} {s : Shared} {a : Addr} {kvs : List (Key × V)} {k : Key} {u : Value} {A : Around} {E : Value → Shared → Prop}
theorem d_pop {v : V} {more : List Value} {Q : Value → Shared → Prop} (I : Inv X pins σ H s) (e : H a = some (.dK kvs)) (ry : RelV (kV k) u) (l : Bz kvs k = some v) (hm : more = [] ∨ ∃ x, more = [x])
  (h : ∀ w' s', Inv X pins σ (upd H a (.dK (Do kvs k))) s' → RelV v w' → Q w' s') : wpAny (model X.prog X.w) A (call (.builtin "dict.pop") (.ref a :: u :: more)) Q E s := by
 obtain ⟨z, hd, vs, rel, dd⟩ := Ni I.hok e
 obtain ⟨w', hw, rw'⟩ := Fk.some_of (v := v) (o := valueAt vs k) (by rw [← l]; exact rel.val k)
 have hp : (keyPart u).isSome = true := by
  cases k with
  | inl i => obtain ⟨t, q⟩ := (show ∃ t, u = Value.int i t from ry); subst q; rfl
  | inr x => obtain ⟨t, q⟩ := (show ∃ t, u = Value.str x t from ry); subst q; rfl
 have ha : argsOk "dict.pop" ⟨.ref a :: u :: more, []⟩ := by
  rcases hm with q | ⟨x, q⟩
  ·subst q; exact PySem.F.args_dict_pop_2 _ _
  ·subst q; exact PySem.F.args_dict_pop_3 _ _ _
 refine call_meetsIn PySem.F.slot_dict_pop dd.typeIs PySem.F.entry_dict_pop ha (meets_dict_pop_there (BG X.prog X.w) a (LX ry) more hm hp)
  ⟨vs, w', dd, by rw [← rel.length]; exact z, hw, fun h' dd' hs => h w' _ ?_ rw'⟩
 have he : ∃ q, h'.get? a = some q := let ⟨q, _, _, hq, _⟩ := dd'; ⟨q, hq⟩
 exact Iy I (by rw [e]; exact True.intro) hs he (OO (Nat.le_trans (TN kvs k) z) hd (rel.drop k) dd')
theorem d_len {Q : Value → Shared → Prop} (I : Inv X pins σ H s) (e : Rd H a (.dK kvs)) (h : ∀ t s', Inv X pins σ H s' → Q (.int kvs.length t) s') : wpAny (model X.prog X.w) A (call (.builtin "len") [.ref a]) Q E s := by
 obtain ⟨z, hd, vs, rel, dd⟩ := Kb I.hok e
 refine call_len_dict hd dd (by rw [← rel.length]; rw [sizeLine_eq] at z; omega) ?_
 rw [← rel.length]
 exact h _ _ (I.tok _)
end
def NoSl (i : Expr) : Prop := ∀ ov iv, subscripted i false ov iv = operate [ov, iv] (getItem ov iv)
theorem UV {prog : Program} {w : World} {A : Around} {E : Value → Shared → Prop} {s : Shared} {env : Env} {value slice : Expr} {pos : Pos} {T id : String} {Q : Value → Shared → Prop}
  (hl : typeLookup (.type T) "__getitem__" = pure (some (.builtin id))) (hs : NoSl slice)
  (h : wpAny (model prog w) A (eval value env) (fun o s₁ => wpAny (model prog w) A (eval slice env) (fun i s₂ => s₂.TypeIs o T ∧ wpAny (model prog w) A (getItem o i) Q E s₂) E s₁) E s) :
  wpAny (model prog w) A (eval (.Subscript value slice pos) env) Q E s := by
 refine Subscript_ (wpAny_mono h (fun o s₁ h₁ => wpAny_mono h₁ (fun i s₂ h₂ => ?_) fun _ _ x => x) fun _ _ x => x)
 obtain ⟨hT, h₂⟩ := h₂
 unfold subscriptTail
 refine wpAny_bind ?_
 rw [getitemInPython_of_ne hT.not_modules]
 refine wpAny_bind (wpAny_specialOf hT hl ?_)
 have fin : wpAny (model prog w) A (subscripted slice false o i) (fun r s₃ => wpAny (model prog w) A (letTemporaryGo value o r >>= fun _ => pure r) Q E s₃) E s₂ := by
  rw [hs o i]
  exact wpAny_operating (wpAny_mono h₂ (fun r s₃ h₃ => wpAny_bind (wpAny_letTemporaryGo (wpAny_pure h₃))) fun _ _ x => x)
 first
  | exact wpAny_pure (wpAny_bind fin)
  | exact wpAny_bind (wpAny_pure (wpAny_bind fin))
  | exact wpAny_bind fin
theorem Ou {X : Cx} {pins : List (Addr × Obj)} {σ : St} {H : Hp} {s : Shared} {a : Addr} {y : V} {o : Option V} (I : Inv X pins σ H s) (g : GK H a y o) : s.TypeIs (.ref a) "dict" := by
 rcases g with ⟨kvs, k, e, _, _⟩ | ⟨kvs, k, b, e, _, _, _⟩
 ·obtain ⟨_, _, vs, _, dd⟩ := Kb I.hok e
  exact dd.typeIs
 ·obtain ⟨_, _, xs, _, dd⟩ := Lx I.hok e
  exact dd.typeIs
def GX (td ty : TE) : TE := fun σ H Q => td σ H fun x H1 => ty σ H1 fun y H2 => ∃ a v, x = .ref a ∧ GK H2 a y (some v) ∧ Q v H2
def Me (ty td : TE) : TE := fun σ H Q => ty σ H fun y H1 => td σ H1 fun x H2 => ∃ a o, x = .ref a ∧ GK H2 a y o ∧ Q (.bl o.isSome) H2
def DS (ty td : TE) : TE := fun σ H Q => ty σ H fun y H1 => td σ H1 fun x H2 => ∃ a o, x = .ref a ∧ GK H2 a y o ∧ Q (.bl (!o.isSome)) H2
def Hv (td ty tv : TE) : TS := fun D σ H => tv σ H fun v H1 => td σ H1 fun x H2 => ty σ H2 fun y H3 => ∃ a H4, x = .ref a ∧ Pe H3 a y v H4 ∧ D.nx σ H4
section
variable {X : Cx} {o i e value : Expr} {pos pos' tpos : Pos} {td ty tv : TE}
theorem Qw (hu : X.A.units + 1 < cLine) (ho : PE X o td) (hi : PE X i ty) (hs : NoSl i) : PE X (.Subscript o i pos) (GX td ty) := by
 intro pins s σ H Q I h
 refine UV PySem.F.slot_dict_getitem.lookup hs (thn (ho pins s σ H _ I h) fun u s1 ⟨x, H1, I1, rx, q1⟩ => thn (hi pins s1 σ H1 _ I1 q1) fun iv s2 ⟨y, H2, I2, ry, a, v, ex, g, q2⟩ => ?_)
 subst ex
 obtain rfl : u = Value.ref a := rx
 exact ⟨Ou I2 g, Rz hu I2 g ry fun w' s3 I3 rw' => ⟨v, H2, I3, rw', q2⟩⟩
theorem Sa (hu : X.A.units + 1 < cLine) (hi : PE X i ty) (ho : PE X o td) : PC X .In i o (Me ty td) := by
 intro pins s σ H Q I h
 refine thn (hi pins s σ H _ I h) fun iv s1 ⟨y, H1, I1, ry, q1⟩ => thn (ho pins s1 σ H1 _ I1 q1) fun u s2 ⟨x, H2, I2, rx, a, ov, ex, g, q2⟩ => ?_
 subst ex
 obtain rfl : u = Value.ref a := rx
 exact d_in hu I2 g ry fun s3 I3 => ⟨.bl ov.isSome, H2, I3, rfl, q2⟩
theorem Rg (hu : X.A.units + 1 < cLine) (hi : PE X i ty) (ho : PE X o td) : PC X .NotIn i o (DS ty td) := by
 intro pins s σ H Q I h
 refine thn (hi pins s σ H _ I h) fun iv s1 ⟨y, H1, I1, ry, q1⟩ => thn (ho pins s1 σ H1 _ I1 q1) fun u s2 ⟨x, H2, I2, rx, a, ov, ex, g, q2⟩ => ?_
 subst ex
 obtain rfl : u = Value.ref a := rx
 exact Tt hu I2 g ry fun s3 I3 => ⟨.bl (!ov.isSome), H2, I3, rfl, q2⟩
theorem RE (hu : X.A.units + 1 < cLine) (ho : PE X o td) (hi : PE X i ty) (hv : PE X value tv) (hs : swapsWith value (some (.Subscript o i pos')) pos.line X.env = pure false) :
  PS X (.Assign [.Subscript o i pos'] value pos) (Hv td ty tv) := by
 intro pins s σ H D I h
 refine wpAny_Assign_Subscript (thn (hv pins s σ H _ I h) fun r s1 ⟨v, H1, I1, rv, q1⟩ => thn (ho pins s1 σ H1 _ I1 q1) fun u s2 ⟨x, H2, I2, rx, q2⟩ => thn (hi pins s2 σ H2 _ I2 q2) fun iv s3 ⟨y, H3, I3, ry, a, H4, ex, g, q3⟩ => ?_) hs
 subst ex
 obtain rfl : u = Value.ref a := rx
 exact Rb hu I3 g ry rv fun s4 I4 => ⟨σ, H4, I4, q3⟩
end
theorem SW {P : Program} {w : World} {H : Hp} (h : Heap) (hb : sysModules < h.objs.size) : BZ P w H (h.push { cls := .type "dict", data := .dict #[] }) h.objs.size (.dK []) :=
 ⟨Nat.zero_le _, beq_eq_false_iff_ne.mpr (Ne.symm (Nat.ne_of_lt hb)), [], .nil, Heap.DictOf.new h⟩
def VF : TE := fun _ H Q => ∀ p, H p = none → Q (.ref p) (upd H p (.dK []))
section
variable {X : Cx} {pos : Pos}
theorem Td : PE X (.Dict [] [] pos) VF := fun pins s σ H Q I h =>
 wpAny_Dict_empty ⟨.ref s.heap.objs.size, _, I.laid (a := s.heap.objs.size) (o := .dK []) (t' := s.toks) (fun _ _ q => Heap.get?_push_of_some _ q) (Nat.le_refl _) (SW s.heap I.big), rfl, h _ (I.hok.fresh (Nat.le_refl _))⟩
end
structure M1 (X : Cx) (o : Expr) (m : Str) (apos : Pos) (e : Expr) (cpos : Pos) : Prop where
 base : attributeBase o m X.env (eval o X.env) = eval o X.env
 few : ((backTo cpos (starEach [e] X.env)).all (fun x => !x.1) && (backToKw cpos (keywordEach [] X.env)).all (fun x => x.1.isSome)
  && decide (([e] : List Expr).length + ([] : List Keyword).length + (if ([] : List Keyword).isEmpty then 0 else 1) < 30)) = true
 line : (apos.endLine == cpos.line) = true
 trees : backTo cpos (starEach [e] X.env) = [(false, eval e X.env)]
structure M2 (X : Cx) (o : Expr) (m : Str) (apos : Pos) (e f : Expr) (cpos : Pos) : Prop where
 base : attributeBase o m X.env (eval o X.env) = eval o X.env
 few : ((backTo cpos (starEach [e, f] X.env)).all (fun x => !x.1) && (backToKw cpos (keywordEach [] X.env)).all (fun x => x.1.isSome)
  && decide (([e, f] : List Expr).length + ([] : List Keyword).length + (if ([] : List Keyword).isEmpty then 0 else 1) < 30)) = true
 line : (apos.endLine == cpos.line) = true
 trees : backTo cpos (starEach [e, f] X.env) = [(false, eval e X.env), (false, eval f X.env)]
def IsD (H : Hp) (a : Addr) : Prop := (∃ kvs, Rd H a (.dK kvs)) ∨ ∃ kvs, Rd H a (.dT kvs)
theorem TH {X : Cx} {pins : List (Addr × Obj)} {σ : St} {H : Hp} {s : Shared} {a : Addr} (I : Inv X pins σ H s) (d : IsD H a) :
  s.TypeIs (.ref a) "dict" ∧ (∀ b, Value.ref a = .ref b → ∃ ob, s.heap.get? b = some ob ∧ ob.dict = none) ∧ (a == sysModules) = false := by
 rcases d with ⟨kvs, e⟩ | ⟨kvs, e⟩
 ·obtain ⟨_, hd, vs, _, dd⟩ := Kb I.hok e
  refine ⟨dd.typeIs, fun b q => ?_, hd⟩
  cases q
  obtain ⟨ob, _, _, h1, h2, _⟩ := dd
  exact ⟨ob, h1, h2.2.1⟩
 ·obtain ⟨_, hd, xs, _, dd⟩ := Lx I.hok e
  refine ⟨dd.typeIs, fun b q => ?_, hd⟩
  cases q
  obtain ⟨ob, _, _, h1, h2, _⟩ := dd
  exact ⟨ob, h1, h2.2.1⟩
section
variable {X : Cx} {pins : List (Addr × Obj)} {σ : St} {H : Hp} {s : Shared} {a : Addr} {y d : V} {u r : Value} {o : Option V} {A : Around} {E : Value → Shared → Prop}
theorem Xl {Q : Value → Shared → Prop} (hu : A.units + 1 < cLine) (I : Inv X pins σ H s) (g : GK H a y o) (ry : RelV y u) (rd : RelV d r) (h : ∀ w' s', Inv X pins σ H s' → RelV (o.getD d) w' → Q w' s') :
  wpAny (model X.prog X.w) A (call (.builtin "dict.get") [.ref a, u, r]) Q E s := by
 rcases g with ⟨kvs, k, e, ey, l⟩ | ⟨kvs, k, b, e, ey, eb, l⟩
 ·subst ey
  obtain ⟨z, hd, vs, rel, dd⟩ := Kb I.hok e
  refine call_meetsIn PySem.F.slot_dict_get dd.typeIs PySem.F.entry_dict_get (PySem.F.args_dict_get_3 _ _ _) (meets_dict_get_default (BG X.prog X.w) a (LX ry) hd r) ⟨_, dd.mapOf, h _ _ (I.tok _) ?_⟩
  rw [l]
  exact (rel.val k).getD rd
 ·subst ey
  cases (show u = Value.ref b from ry)
  obtain ⟨z, hd, xs, rel, dd⟩ := Lx I.hok e
  refine call_meetsIn PySem.F.slot_dict_get dd.typeIs PySem.F.entry_dict_get (PySem.F.args_dict_get_3 _ _ _) (meetsH_dict_get_default (tupleKind (BG X.prog X.w)) a b hd r) ⟨tupleKind_room_in1 hu, k, xs, KC I.hok eb, dd, h _ _ (I.tok _) ?_⟩
  rw [l]
  exact (rel.val k).getD rd
end
def E7 (td ty tx : TE) : TE := fun σ H Q => td σ H fun x H1 => ∃ a, x = .ref a ∧ IsD H1 a ∧ ty σ H1 fun y H2 => tx σ H2 fun z H3 => ∃ o, GK H3 a y o ∧ Q (o.getD z) H3
def FC (td ty : TE) : TE := fun σ H Q => td σ H fun x H1 => ∃ a, x = .ref a ∧ IsD H1 a ∧ ty σ H1 fun y H2 => ∃ kvs k v, H2 a = some (.dK kvs) ∧ y = kV k ∧ Bz kvs k = some v ∧ Q v (upd H2 a (.dK (Do kvs k)))
section
variable {X : Cx} {o e f : Expr} {apos cpos : Pos} {td ty tx : TE}
theorem Se (hu : X.A.units + 1 < cLine) (ho : PE X o td) (he : PE X e ty) (hf : PE X f tx) (m : M2 X o "get" apos e f cpos) : PE X (.Call (.Attribute o "get" apos) [e, f] [] cpos) (E7 td ty tx) := by
 intro pins s σ H Q I h
 refine wpAny_Call_method m.base m.few m.line PySem.F.plainAttrs_dict PySem.F.slot_dict_get PySem.F.type_dict_get (thn (ho pins s σ H _ I h) fun u s1 ⟨x, H1, I1, rx, a, ex, d, q1⟩ => ?_)
 subst ex
 obtain rfl : u = Value.ref a := rx
 obtain ⟨t1, t2, _⟩ := TH I1 d
 refine ⟨t1, t2, ?_⟩
 rw [m.trees]
 refine Calls.callWith_builtin rfl (Calls.evalArgs_plain (Calls.spliced_cons (thn (he pins s1 σ H1 _ I1 q1) fun iv s2 ⟨y, H2, I2, ry, q2⟩ =>
  Calls.spliced_cons (thn (hf pins s2 σ H2 _ I2 q2) fun fv s3 ⟨z, H3, I3, rz, ov, g, q3⟩ => Calls.spliced_nil ?_))))
 exact Xl hu I3 g ry rz fun w' s4 I4 rw' => ⟨_, H3, I4, rw', q3⟩
theorem Sd (ho : PE X o td) (he : PE X e ty) (m : M1 X o "pop" apos e cpos) : PE X (.Call (.Attribute o "pop" apos) [e] [] cpos) (FC td ty) := by
 intro pins s σ H Q I h
 refine wpAny_Call_method m.base m.few m.line PySem.F.plainAttrs_dict PySem.F.slot_dict_pop PySem.F.type_dict_pop (thn (ho pins s σ H _ I h) fun u s1 ⟨x, H1, I1, rx, a, ex, d, q1⟩ => ?_)
 subst ex
 obtain rfl : u = Value.ref a := rx
 obtain ⟨t1, t2, _⟩ := TH I1 d
 refine ⟨t1, t2, ?_⟩
 rw [m.trees]
 refine Calls.callWith_builtin rfl (Calls.evalArgs_plain (Calls.spliced_cons (thn (he pins s1 σ H1 _ I1 q1) fun iv s2 ⟨y, H2, I2, ry, kvs, k, v, ea, ey, l, q2⟩ => Calls.spliced_nil ?_)))
 subst ey
 exact d_pop I2 ea ry l (.inl rfl) fun w' s3 I3 rw' => ⟨v, _, I3, rw', q2⟩
end
section
variable {X : Cx} {pins : List (Addr × Obj)} {σ : St} {H : Hp} {s : Shared} {a : Addr} {kvs : List (Key × V)} {A : Around} {E : Value → Shared → Prop}
end
section
variable {X : Cx} {pins : List (Addr × Obj)} {σ : St} {H : Hp} {s : Shared} {a : Addr} {y : V} {u : Value} {A : Around} {E : Value → Shared → Prop}
end
end L2
namespace Att
open PySem PySem.W PySem.Calls PyProof.Rows
theorem ints_of_wellAll {P : Params} {h : Heap} : ∀ (ns : List Int) (vs : List Value), WellAll P h vs (ns.map WData.int) → IntsAre vs ns := by
 intro ns
 induction ns with
 | nil =>
  intro vs w
  rw [List.map_nil] at w
  cases w
  exact .nil
 | cons n ns ih =>
  intro vs w
  rw [List.map_cons] at w
  cases w with
  | cons a b =>
   cases a
   exact .cons _ _ (ih _ b)
theorem script_of {l : OpenLaw} {n : Nat} (hn : l.most = some n) {P : Params} {h : Heap} {args : List WData} {vals : List Value}
  (hpre : l.row.toRowW.claim.pre args = true) (hwl : WellAll P h vals args) :
  ∃ a vs ns, vals = [Value.ref a] ∧ args = [WData.list (ns.map WData.int)] ∧ h.get? a = some { cls := .type "list", data := .seq vs.toArray } ∧ IntsAre vs ns ∧ ns.length ≤ n := by
 have hsh : WShape.hasAll [] args [.list .int] = true := (pre_splitW hpre).1
 have hc : l.pre.holds [] { args := args } = true := (pre_splitW hpre).2
 obtain ⟨d, r, rfl, h1, h2⟩ := hasAllW_cons hsh
 obtain rfl := hasAllW_nil h2
 obtain ⟨xs, rfl, h3⟩ := hasW_list h1
 obtain ⟨ns, rfl⟩ := items_int h3
 have hlen : ns.length ≤ n := by
  unfold OpenLaw.pre at hc
  have h4 : (WTm.not (.lt (.lit (.int (n : Int))) (.len (.arg 0)))).holds [] { args := [.list (ns.map .int)] } = true := by
   have h4 := (holds_andW hc).1
   rw [hn] at h4
   exact h4
  have h5 := condW_of h4 (w_not (w_lt w_lit (w_len_list (w_arg rfl))))
  rw [List.length_map] at h5
  refine Nat.le_of_not_lt fun q => ?_
  have q' : (n : Int) < ((ns.length : Nat) : Int) := by omega
  first
   | (rw [decide_eq_true q'] at h5; exact absurd h5 (by decide))
   | (simp at h5; omega)
 cases hwl with
 | cons w1 w2 =>
  cases w2
  cases w1 with
  | list ho hall => exact ⟨_, _, ns, rfl, rfl, ho, ints_of_wellAll ns _ hall, hlen⟩
theorem post_true (l : OpenLaw) (args : List WData) : l.row.toRowW.claim.post args (.bool true) args = true :=
 postW_of (r := l.row.toRowW) (X := (true == true))
  (show WShape.has [] (.bool true) .bool = true by first | rfl | decide | simp [WShape.has, WShape.arms, WShape.armsAll])
  (show (WTm.eq .res (.lit (.bool true))).value [] { args := args, res := some (.bool true), after := args } = some (.bool (true == true)) from w_eq_bool (w_res rfl) w_lit) rfl
theorem attach_call {l : OpenLaw} {n : Nat} {q : Program} {loose : List Str} {XP : (Str → Option Value) → Heap → Prop} {YP : World → Heap → Prop} {d : DefRec}
  (hn : l.most = some n) (hdf : d.params.defaults = [])
  (call : ∀ (w : World) (s₀ s₁ : Shared) (mg mb : Str → Option Value) (fa : Addr) (o : Obj) (pm cd doc : Value) (a : Addr) (vs : List Value) (ns : List Int),
   Ground q loose [] XP w s₀ mg mb s₁.heap → YP w s₁.heap →
   s₁.heap.get? fa = some o → o.data = .func (docDef d.name d.params d.body d.scope pm cd doc) → s₁.heap.CodeRec cd d.name → mg d.name = some (.ref fa) →
   s₁.heap.get? a = some { cls := .type "list", data := .seq vs.toArray } → IntsAre vs ns → ns.length ≤ n → s₁.gens = #[] →
   codeAny (model l.prog w) callerA (.call (.ref fa) ⟨[.ref a], []⟩) (fun r s' => r = .ok (.ret (.bool true)) ∧ OldK s₁.heap s'.heap ∧ s'.os = s₁.os ∧ AllBare s'.gens) s₁) :
  WalkO q loose XP YP l.row.toRowW d [] (fun f vs => PySem.call f vs) := by
 intro w s₀ s₁ mg mb G Y fa o pm cd doc dV kV ho hd hcd hD hmg hg args vals as hpre hlay hrd hwl hlo
 obtain rfl : dV = .none := Dflts.none hD hdf
 obtain rfl : kV = .none := Dflts.noKw hD
 obtain ⟨a, vs, ns, rfl, rfl, hobj, hints, hlen⟩ := script_of hn hpre hwl
 refine enter_call (codeAny_mono (call w s₀ s₁ mg mb fa o pm cd doc a vs ns G Y ho (fd_plain hd) hcd hmg hobj hints hlen hg) fun r s' hq => ?_)
 obtain ⟨rfl, h2, h3, h4⟩ := hq
 exact ⟨.inl ⟨.bool true, .bool true, [], rfl, fun _ => rfl, .bool true, post_true l _, fun _ => ⟨List.Pairwise.nil, fun _ hm => (nomatch hm)⟩⟩, h2, h3, h4⟩
section
variable {prog : Program} {w : World} {A : Around} {E : Value → Shared → Prop} {s : Shared} {K : Frag}
def noObjs (h : Heap) : Heap := { h with objs := #[] }
theorem noObjs_get (h : Heap) (b : Addr) : (noObjs h).get? b = none := by
 cases e : (noObjs h).get? b with
 | none => rfl
 | some o => exact absurd (Heap.lt_size e) (Nat.not_lt_zero _)
def ledger (h : Heap) (L d : Addr) : List (Addr × Obj) := (List.range h.objs.size).filterMap fun a => if a = L ∨ a = d then none else (h.get? a).map fun o => (a, o)
theorem mem_ledger {h : Heap} {L d a : Addr} {o : Obj} : (a, o) ∈ ledger h L d ↔ a ≠ L ∧ a ≠ d ∧ h.get? a = some o := by
 unfold ledger
 rw [List.mem_filterMap]
 constructor
 ·rintro ⟨b, _, e⟩
  split at e
  ·cases e
  ·rename_i hb
   obtain ⟨o', ho, e'⟩ := Option.map_eq_some_iff.mp e
   cases e'
   exact ⟨fun q => hb (.inl q), fun q => hb (.inr q), ho⟩
 ·rintro ⟨n1, n2, ho⟩
  refine ⟨a, List.mem_range.mpr (Heap.lt_size ho), ?_⟩
  rw [if_neg (show ¬ (a = L ∨ a = d) from fun q => q.elim n1 n2), ho] <;> rfl
theorem fr_all {h : Heap} {L : Addr} {m : Str → Option Value} (n : h.Ns L m) : Fr (noObjs h) L h m :=
 ⟨n, fun b o e => (by rw [noObjs_get] at e; cases e), Nat.zero_le _⟩
end
end Att
namespace L2
open PySem PySem.Spec PyProof.Rows
theorem M3 : ∀ {vs : List Value} {ns : List Int}, IntsAre vs ns → Au (ns.map V.int) vs
 | _, _, .nil => .nil
 | _, _, .cons n t h => .cons ⟨t, rfl⟩ (M3 h)
end L2
namespace L2
open PySem PySem.Spec PyProof.Rows
end L2
namespace L2
open PySem PySem.Spec PyProof.Rows
def CK (s : Stmt) (j : Nat) : Stmt := match s with
 | .ClassDef _ _ _ body _ _ _ _ _ _ _ => body.getD j (.Pass ⟨0, 0, 0, 0⟩)
 | _ => .Pass ⟨0, 0, 0, 0⟩
def Bq (s : Stmt) : Arguments := match s with
 | .FunctionDef _ a _ _ _ _ _ _ _ _ => a
 | _ => { posonlyargs := [], args := [], vararg := none, kwonlyargs := [], kw_defaults := [], kwarg := none, defaults := [] }
def BR (s : Stmt) : List Stmt := match s with
 | .FunctionDef _ _ b _ _ _ _ _ _ _ => b
 | _ => []
def AH (s : Stmt) : Scope := match s with
 | .FunctionDef _ _ _ _ _ _ sc _ _ _ => sc
 | _ => { kind := .function, names := [], isGenerator := false, isCoroutine := false }
abbrev CX0 : CXT := fun _ _ _ _ _ _ => False
abbrev E0 : XK := fun _ _ _ => False
theorem Ad {X : Cx} : Ie CX0 X E0 := fun _ _ _ _ _ _ _ h => h.elim
structure Fun (K : PySem.W.Frag) (x qual : Str) (st : Stmt) (f : Addr) (fd : FuncData) : Prop where
 ex : ∃ (oc : Value) (od : Option Addr) (kV doc pm : Value) (an : Option Addr) (cdv ct : Value) (osl : Array (Option Value)),
  fd = PySem.W.fnOf x qual (Bq st) (BR st) (AH st) .none kV doc pm an cdv ct ∧ K.lookup f = some ⟨oc, od, .func fd, osl⟩ ∧ PySem.W.codeIn K cdv qual = true
 kp : PySem.W.keepIn K (.ref f) = true
section
variable {P : Program} {w : World} {K : PySem.W.Frag} {mg : Str → Option Value} {base : Heap}
theorem Fun.ok {x qual : Str} {st : Stmt} {f : Addr} {fd : FuncData} {N ps : List Str} {k : Nat} {sp : Sp} (F : Fun K x qual st f fd) (S : AY N ps (AH st)) (len : ∀ vs H Q E, sp vs H Q E → vs.length = ps.length)
  (hbody : ∀ (cdv : Value) (A : Around) (outer : List Env) (s : Shared) (H : Hp) (vs : List V) (Q : VK) (E : XK), CT k (A.deeper (envOfC qual (AH st) s.heap.objs.size f cdv)) → sp vs H Q E →
   ∃ t, PSs (FM CX0 P w K mg base N qual (AH st) f cdv A outer s H E).nox (BR st) t ∧ t { nx := fun _ H' => Q .non H', rt := Q } (start N vs) H) : Ay P w K mg base CX0 (k + 1) f fd ps sp := by
 obtain ⟨oc, od, kV, doc, pm, an, cdv, ct, osl, rfl, lk, hcd⟩ := F.ex
 refine Q2 lk hcd S len fun A outer s H vs Q E hr hsp => ?_
 obtain ⟨t, h, q⟩ := hbody cdv A outer s H vs Q E hr hsp
 exact ⟨t, h.nox, q⟩
theorem Fun.binds {x qual : Str} {st : Stmt} {f : Addr} {fd : FuncData} {ps : List Str} (F : Fun K x qual st f fd)
  (h : ∀ (kV doc pm : Value) (an : Option Addr) (cdv ct : Value) (us : List Value), us.length = ps.length → bindArgs (PySem.W.fnOf x qual (Bq st) (BR st) (AH st) .none kV doc pm an cdv ct) ⟨us, []⟩ = pure (ps.zip us)) : Binds K fd ps [] := by
 obtain ⟨oc, od, kV, doc, pm, an, cdv, ct, osl, rfl, lk, hcd⟩ := F.ex
 exact .all (h kV doc pm an cdv ct)
theorem Jz {x qual : Str} {st : Stmt} {f : Addr} {oc : Value} {od an : Option Addr} {osl : Array (Option Value)} {kV doc pm cdv ct : Value} (l : K.lookup f = some ⟨oc, od, .func (PySem.W.fnOf x qual (Bq st) (BR st) (AH st) .none kV doc pm an cdv ct), osl⟩)
  (c : PySem.W.codeIn K cdv qual = true) (k : PySem.W.keepIn K (.ref f) = true) : Fun K x qual st f (PySem.W.fnOf x qual (Bq st) (BR st) (AH st) .none kV doc pm an cdv ct) := ⟨⟨oc, od, kV, doc, pm, an, cdv, ct, osl, rfl, l, c⟩, k⟩
end
theorem At {A : Around} {k : Nat} (hr : CT k A) : A.units + 1 < cLine := Nat.lt_of_le_of_lt (Nat.add_le_add_left (by decide : 1 ≤ 64) _) hr.units
section
variable {X : Cx}
theorem pv (i : Nat) {x : Str} {pos : Pos} (hN : X.N[i]? = some x := by rfl) (hv : Vis X.env.scope x := by first | exact Or.inl rfl | exact Or.inr (Or.inl rfl) | exact Or.inr (Or.inr rfl)) (hd : (x == ("__debug__" : Str)) = false := by decide)
  (hcd : (x == ("__classdict__" : Str)) = false := by decide) : PE X (.Name x pos) (Kw i) := WX hN hv hd hcd
end
def AL (H H' : Hp) : Prop := ∀ b o, H b = some o → H' b = some o
theorem AL.refl (H : Hp) : AL H H := fun _ _ h => h
theorem AL.trans {H H1 H2 : Hp} (a : AL H H1) (b : AL H1 H2) : AL H H2 := fun c o h => b c o (a c o h)
theorem AL.free {H H' : Hp} (e : AL H H') {l : Addr} (h : H' l = Option.none) : H l = Option.none := by
 cases q : H l with
 | none => rfl
 | some o =>
  rw [e l o q] at h
  cases h
theorem AL.seq {K : PySem.W.Frag} {H H' : Hp} {a : Addr} {xs : List V} (e : AL H H') (h : SqL K H a xs) : SqL K H' a xs := by
 rcases h with (h | ⟨o, h⟩) | h
 ·exact .inl (.inl (e _ _ h))
 ·exact .inl (.inr ⟨o, e _ _ h⟩)
 ·exact .inr h
end L2
namespace L2
open PySem PySem.Spec PyProof.Rows
section
variable {X : Cx}
theorem Ju : CA X (.builtin "len") (fun xs H Q => ∃ a kvs, xs = [V.ref a] ∧ H a = some (.dK kvs) ∧ Q (.int kvs.length) H) := by
 intro pins s σ H xs us Q I r h
 obtain ⟨a, kvs, rfl, ha, q⟩ := h
 obtain ⟨u, rfl, ru⟩ := vals1 r
 cases ru
 exact d_len I (.inl ha) fun t s' I' => ⟨.int kvs.length, H, I', ⟨t, rfl⟩, q⟩
end
section
variable {κ : Type} [DecidableEq κ]
theorem UL {kvs : List (κ × V)} {k : κ} {v : V} (h : Bz kvs k = some v) : k ∈ kvs.map (·.1) := by
 have q : (kvs.any fun kv => decide (kv.1 = k)) = true := by
  rw [FX, h]
  all_goals rfl
 obtain ⟨p, hp, e⟩ := List.any_eq_true.mp q
 exact List.mem_map.mpr ⟨p, hp, of_decide_eq_true e⟩
theorem Q5 : ∀ {l : List κ} {k : κ}, l.Nodup → ¬ k ∈ l → (l ++ [k]).Nodup
 | [], k, _, _ => by simp
 | a :: r, k, h, hk => by
  obtain ⟨h1, h2⟩ := List.nodup_cons.mp h
  show (a :: (r ++ [k])).Nodup
  refine List.nodup_cons.mpr ⟨fun m => ?_, Q5 h2 fun m => hk (List.mem_cons.mpr (Or.inr m))⟩
  rcases List.mem_append.mp m with q | q
  ·exact h1 q
  ·exact hk (List.mem_cons.mpr (Or.inl (List.mem_singleton.mp q).symm))
theorem Rc {p : κ × V} {r : List (κ × V)} {k : κ} (e : p.1 = k) : Do (p :: r) k = Do r k := by
 unfold Do
 rw [List.filter_cons, if_neg (by simp [e])]
theorem R8 {p : κ × V} {r : List (κ × V)} {k : κ} (e : ¬ p.1 = k) : Do (p :: r) k = p :: Do r k := by
 unfold Do
 rw [List.filter_cons, if_pos (by simp [e])]
end
end L2
set_option Elab.async false
set_option linter.all false
set_option maxRecDepth 100000
namespace L2
open PySem PySem.Spec PyProof.Rows
theorem IG : bootBuiltins "abs" = some (.builtin "abs") := by decide +kernel
theorem Ax : bootBuiltins "len" = some (.builtin "len") := by decide +kernel
theorem Bn : bootBuiltins "isinstance" = some (.builtin "isinstance") := by decide +kernel
theorem Nz : bootBuiltins "max" = some (.builtin "max") := by decide +kernel
theorem SQ : bootBuiltins "min" = some (.builtin "min") := by decide +kernel
theorem Pn : bootBuiltins "int" = some (.type "int") := by decide +kernel
theorem UB : bootBuiltins "bool" = some (.type "bool") := by decide +kernel
theorem Lu : bootBuiltins "tuple" = some (.type "tuple") := by decide +kernel
theorem Q6 : bootBuiltins "list" = some (.type "list") := by decide +kernel
def Sm (i : Int) : Prop := i.natAbs < 2 ^ 4000
theorem Sm.of {i : Int} {n : Nat} (h : i.natAbs ≤ n) (hn : n < 2 ^ 4000) : Sm i := Nat.lt_of_le_of_lt h hn
theorem Sm.bits {i : Int} (h : Sm i) : Builtin.Int.intBits i ≤ 2 ^ 20 := by
 unfold Builtin.Int.intBits
 split
 ·exact Nat.zero_le _
 ·have hn : i.natAbs < 2 ^ 4000 := h
  have : i.natAbs.log2 < 4000 := by
   rcases Nat.eq_zero_or_pos i.natAbs with h0 | hp
   ·rw [h0]; decide
   ·exact (Nat.log2_lt (Nat.ne_of_gt hp)).mpr hn
  have h20 : (4000 : Nat) ≤ 2 ^ 20 := by decide
  omega
theorem Sm.log {i : Int} (h : Sm i) : i.natAbs.log2 < 9000 := by
 have hn : i.natAbs < 2 ^ 4000 := h
 rcases Nat.eq_zero_or_pos i.natAbs with h0 | hp
 ·rw [h0]; decide
 ·exact Nat.lt_trans ((Nat.log2_lt (Nat.ne_of_gt hp)).mpr hn) (by decide)
section
variable {X : Cx}
theorem B0 : OpR X (binaryOp .Mult) (rI (fun i j => Sm i ∧ Sm j) fun i j => .int (i * j)) := opI fun _ _ _ _ _ _ _ hc q => mul_int q (.of_bits hc.1.bits hc.2.bits)
theorem Op : OpR X (binaryOp .FloorDiv) (rI (fun _ j => j ≠ 0 ∧ Sm j) fun i j => .int (i.fdiv j)) := opI fun _ _ _ _ _ _ _ hc q => floordiv_int hc.1 q (.inl (PyProof.noPylong_of_log2 hc.2.log))
theorem CV : CA X (.builtin "isinstance") (fun xs H Q => ∃ x n t b, xs = [x, .ty n] ∧ Gg X.K H x t ∧ PySem.W.kitOne X.K t (.type n) = some b ∧ Q (.bl b) H) := by
 intro pins s σ H xs us Q I r h
 obtain ⟨x, n, t, b, rfl, ty, e, q⟩ := h
 obtain ⟨u, w', rfl, r1, r2⟩ := vals2 r
 cases (show w' = Value.type n from r2)
 exact RJ I r1 ty e fun tk => ⟨.bl b, H, I.tok tk, rfl, q⟩
end
structure D (K : PySem.W.Frag) (mg : Str → Option Value) (x : Str) (st : Stmt) (ps : List Str) (f : Addr) (fd : FuncData) : Prop where
 F : Fun K x x st f fd
 m : mg x = some (.ref f)
 b : Binds K fd ps []
end L2
namespace L2
open PySem PySem.Spec PyProof.Rows
section
variable {X : Cx} {st : Stmt} {rest : List Stmt} {t u : TS}
theorem Ir {t u : TS} {D : Ib} {σ : St} {H : Hp} (h : ∀ M : St → Hp → Prop, (∀ σ' H', u D σ' H' → M σ' H') → t { D with nx := M } σ H) : Pk t u D σ H := h _ fun _ _ z => z
def tCut (t u : TS) : TS := fun D σ H => ∃ M : St → Hp → Prop, t { D with nx := M } σ H ∧ ∀ σ' H', M σ' H' → u D σ' H'
theorem Bt (h1 : PS X st t) (h2 : PSs X rest u) : PSs X (st :: rest) (tCut t u) := by
 intro pins s σ H D I h
 obtain ⟨M, h, hM⟩ := h
 refine wpAny_execs_cons (thn (h1 pins s σ H _ I h) fun f s1 q => ?_)
 cases f with
 | next =>
  obtain ⟨σ', H', I', q⟩ := q
  exact h2 pins s1 σ' H' D I' (hM σ' H' q)
 | ret v => exact q
 | brk => exact q
 | cont => exact q
end
end L2
namespace L2
open PySem PySem.Spec PyProof.Rows
theorem cxK {CX : CXT} {P : Program} {w : World} {K : PySem.W.Frag} {mg : Str → Option Value} {base : Heap} {N : List Str} {qual : Str} {scope : Scope} {f : Addr} {cd : Value} {A : Around} {outer : List Env} {s : Shared} {H : Hp} {E : XK} :
 (FM CX P w K mg base N qual scope f cd A outer s H E).K = K := rfl
end L2
namespace L2
theorem J4 : Int.natAbs 10 = 10 := rfl
theorem NI : Int.natAbs 2 = 2 := rfl
end L2
namespace L2
theorem BD {H : Hp} {p : PySem.Addr} {o : HO} (hp : H p = none) : AL H (upd H p o) := fun b u e => by
 rw [AK (Ap e hp)]; exact e
theorem AL.tup {K : PySem.W.Frag} {H H' : Hp} {a : PySem.Addr} {xs : List V} (e : AL H H') (h : SqT K H a xs) : SqT K H' a xs := by
 rcases h with (h | ⟨o, h⟩) | h
 ·exact .inl (.inl (e _ _ h))
 ·exact .inl (.inr ⟨o, e _ _ h⟩)
 ·exact .inr h
end L2
namespace L2
open PySem PySem.Spec PyProof.Rows
section
variable {X : Cx} {es : List Expr} {t : TA} {pos : Pos}
def IA (t : TA) : TE := fun σ H Q => t σ H fun xs H1 => xs.length ≤ sizeLine ∧ ∀ p H', H1 p = none → AL H1 H' → H' p = some (.tup xs) → Q (.ref p) H'
def HK (t : TA) : TE := fun σ H Q => t σ H fun xs H1 => xs.length ≤ sizeLine ∧ ∀ p H', H1 p = none → AL H1 H' → H' p = some (.lst xs) → Q (.ref p) H'
theorem Av {x1} (h : PA X es t) : PE X (.Tuple es x1 pos) (IA t) := by
 intro pins s σ H Q I hq
 refine wpAny_Tuple_spliced (thn (h pos pins s σ H _ I hq) fun us s1 ⟨xs, H1, I1, r, z, q⟩ => ⟨by rw [← r.length]; exact z, ?_⟩)
 have hf : H1 s1.heap.objs.size = none := I1.hok.fresh (Nat.le_refl _)
 refine ⟨.ref s1.heap.objs.size, upd H1 s1.heap.objs.size (.tup xs), I1.laid (t' := s1.toks) (fun b u e => Heap.get?_push_of_some _ e) (Nat.le_refl _) ?_, rfl, q _ _ hf (BD hf) AO⟩
 exact ⟨z, us, r, ⟨_, Heap.get?_push_size _ rfl, rfl, _, rfl⟩⟩
theorem An (h : PA X es t) : PE X (.List es pos) (HK t) := by
 intro pins s σ H Q I hq
 refine wpAny_List_spliced (thn (h pos pins s σ H _ I hq) fun us s1 ⟨xs, H1, I1, r, z, q⟩ => ⟨by rw [← r.length]; exact z, ?_⟩)
 have hf : H1 s1.heap.objs.size = none := I1.hok.fresh (Nat.le_refl _)
 refine ⟨.ref s1.heap.objs.size, upd H1 s1.heap.objs.size (.lst xs), I1.laid (t' := s1.toks) (fun b u e => Heap.get?_push_of_some _ e) (Nat.le_refl _) ?_, rfl, q _ _ hf (BD hf) AO⟩
 exact ⟨z, us, 0, r, Heap.get?_push_size _ rfl⟩
end
end L2
namespace L2
theorem AL.get {H H' : Hp} (s : AL H H') {b : PySem.Addr} {o : HO} (h : H b = some o) : H' b = some o := s b o h
end L2
namespace L2
theorem JS {α : Sort _} {p q : α → Prop} (w : α) (h1 : p w) (h2 : q w) : ∃ x, p x ∧ q x := ⟨w, h1, h2⟩
theorem exOrL {α : Sort _} {p p' q : α → Prop} (w : α) (h1 : p w) (h2 : q w) : ∃ x, (p x ∨ p' x) ∧ q x := ⟨w, .inl h1, h2⟩
theorem exOrR {α : Sort _} {p p' q : α → Prop} (w : α) (h1 : p' w) (h2 : q w) : ∃ x, (p x ∨ p' x) ∧ q x := ⟨w, .inr h1, h2⟩
end L2
namespace L2
open PySem PySem.Spec PyProof.Rows
section
variable {X : Cx}
theorem OpR.weak {f : Value → Value → Sem Value} {r r' : R2} (h : OpR X f r) (m : ∀ x y H Q, r' x y H Q → r x y H Q) : OpR X f r' :=
 fun pins s σ H x y v u Q I rx ry q => h pins s σ H x y v u Q I rx ry (m x y H Q q)
theorem CA.weak {f : Value} {r r' : List V → Hp → VK → Prop} (h : CA X f r) (m : ∀ xs H Q, r' xs H Q → r xs H Q) : CA X f r' :=
 fun pins s σ H xs us Q I rx q => h pins s σ H xs us Q I rx (m xs H Q q)
def Hr : R2 := fun x y H Q => ∃ l b, x = .ref l ∧ y = .ref b ∧ ∃ xs, H l = some (.lst xs) ∧ ∃ zs, H b = some (.lst zs) ∧ xs.length + zs.length ≤ sizeLine ∧ ∀ p H', H p = none → AL H H' → H' p = some (.lst (xs ++ zs)) → Q (.ref p) H'
theorem OM : OpR X (binaryOp .Add) Hr := Vs.weak fun _ _ _ _ ⟨l, b, e1, e2, xs, h1, zs, h2, h3, q⟩ => ⟨l, b, xs, zs, e1, e2, h1, h2, h3, fun p hp => q p _ hp (BD hp) AO⟩
def D3 (K : PySem.W.Frag) : List V → Hp → VK → Prop := fun xs H Q => ∃ p, xs = [.ref p] ∧ ∃ ys, SqL K H p ys ∧ ∀ l H', H l = none → AL H H' → H' l = some (.tup ys) → Q (.ref l) H'
def DR (K : PySem.W.Frag) : List V → Hp → VK → Prop := fun xs H Q => ∃ p, xs = [.ref p] ∧ ∃ ys, (SqL K H p ys ∨ SqT K H p ys) ∧ ∀ l H', H l = none → AL H H' → H' l = some (.lst ys) → Q (.ref l) H'
theorem Pz : CA X (.type "list") (DR X.K) := Ny.weak fun _ _ _ ⟨p, e, ys, h, q⟩ => ⟨p, ys, e, h, fun l hl => q l _ hl (BD hl) AO⟩
end
def Md (i : Int) : Prop := i.natAbs ≤ 10 ^ 60
theorem Md.sm {i : Int} (h : Md i) : Sm i := Sm.of h (by decide +kernel)
theorem Md.mul {i j : Int} (h : Md i) (g : Md j) : (i * j).natAbs ≤ 10 ^ 120 := by
 rw [Int.natAbs_mul]; exact Nat.le_trans (Nat.mul_le_mul h g) (by decide +kernel)
theorem Md.mulS {i j : Int} (h : Md i) (g : Md j) : Sm (i * j) := Sm.of (h.mul g) (by decide +kernel)
end L2
namespace L2
theorem Qa {c A B : Prop} [Decidable c] (hc : ¬ c) (h : B) : if c then A else B := by rw [if_neg hc]; exact h
theorem Uq {c A B : Prop} [Decidable c] (hc : c) (h : A) : if c then A else B := by rw [if_pos hc]; exact h
theorem Xi {H H' : Hp} (h : AL H H') : True := trivial
end L2
namespace L2
open PySem PySem.Spec PyProof.Rows
section
variable {X : Cx}
theorem NF : CA X (.type "int") (fun xs H Q => ∃ k, xs = [.bl k] ∧ Q (.int (if k = true then 1 else 0)) H) := SA.weak fun _ _ _ ⟨k, e, q⟩ => .inr ⟨k, e, by cases k <;> exact q⟩
end
theorem CS {a b : Int} {m n : Nat} (ha : a.natAbs ≤ m) (hb : b.natAbs ≤ n) : (a * b).natAbs ≤ m * n := by
 rw [Int.natAbs_mul]; exact Nat.mul_le_mul ha hb
theorem atL2 {x y e : Int} (h0 : 0 ≤ e) (h1 : e < 2) : ∃ v : Int, atI [V.int x, V.int y] e = some (V.int v) ∧ (v = x ∨ v = y) := by
 rcases (by omega : e = 0 ∨ e = 1) with rfl | rfl
 ·exact ⟨x, rfl, .inl rfl⟩
 ·exact ⟨y, rfl, .inr rfl⟩
theorem atL4 {x y z t e : Int} (h0 : 0 ≤ e) (h1 : e < 4) : ∃ v : Int, atI [V.int x, V.int y, V.int z, V.int t] e = some (V.int v) ∧ (v = x ∨ v = y ∨ v = z ∨ v = t) := by
 rcases (by omega : e = 0 ∨ e = 1 ∨ e = 2 ∨ e = 3) with rfl | rfl | rfl | rfl
 ·exact ⟨x, rfl, .inl rfl⟩
 ·exact ⟨y, rfl, .inr (.inl rfl)⟩
 ·exact ⟨z, rfl, .inr (.inr (.inl rfl))⟩
 ·exact ⟨t, rfl, .inr (.inr (.inr rfl))⟩
end L2
set_option Elab.async false
set_option linter.all false
set_option maxRecDepth 100000
set_option maxHeartbeats 4000000
namespace L2
open PySem PySem.Spec PyProof.Rows
section
variable {prog : Program} {w : World} {A : Around} {R : Result → Shared → Prop} {s : Shared}
theorem Os {elt target iter : Expr} {ifs : List Expr} {scope : Scope} {pos : Pos} {it acc : Value} {env : Env} (I : Nat → Shared → Prop) {N : Value → Shared → Prop} (hN : N = notedBy (model prog w) A env fun e s' => R (.error e) s')
  (turn : ∀ n s, I n s → wpAny (model prog w) A (pyNext it) (fun r s₁ => match r with
   | none => R (.ok .next) s₁
   | some v => wpAny (model prog w) A (letOwnedTupleGo target it v) (fun _ s₁' => wpAny (model prog w) A (assign target env v) (fun _ s₂ =>
     wpAny (model prog w) A (forIn ifs true fun c r => if r = true then do let ok ← isTrue c env (eval c env); pure (ForInStep.yield ok) else pure (ForInStep.yield r)) (fun ok s₃ =>
      if ok = true then wpAny (model prog w) A (eval elt env) (fun x s₄ => wpAny (model prog w) A (call (.builtin "list.append") [acc, x]) (fun _ s₅ => ∃ m, m < n ∧ I m s₅) N s₄) N s₃
      else ∃ m, m < n ∧ I m s₃) N s₂) N s₁') N s₁) N s)
  (n : Nat) (h : I n s) : codeAny (model prog w) A (.compLoop (.ListComp elt [⟨target, iter, ifs, 0⟩] scope pos) 0 it acc env) R s := by
 subst hN
 refine codeAny_loop rfl I (fun n s hI => ?_) n h
 show wpAny _ A ((compTurn (.ListComp elt [⟨target, iter, ifs, 0⟩] scope pos) 0 it acc env).onRaise (fun x => do noteFrame x env; theTreesLotGoes x)) _ _ s
 refine wpAny_noted ?_
 rw [compTurn_list]
 refine wpAny_bind (wpAny_standAt (wpAny_bind (wpAny_mono (turn n s hI) (fun r s₁ h₁ => ?_) fun _ _ h' => h')))
 cases r with
 | none => exact wpAny_pure h₁
 | some v =>
  refine wpAny_bind (wpAny_mono h₁ (fun _ s₁' h₁' => ?_) fun _ _ h' => h')
  refine wpAny_bind (wpAny_mono h₁' (fun _ s₂ h₂ => wpAny_bind (wpAny_mono h₂ (fun ok s₃ h₃ => ?_) fun _ _ h' => h')) fun _ _ h' => h')
  cases ok with
  | false => exact wpAny_pure ⟨rfl, h₃⟩
  | true =>
   exact wpAny_bind (wpAny_bind (wpAny_mono h₃ (fun x s₄ h₄ => wpAny_bind (wpAny_mono h₄ (fun _ s₅ h₅ => wpAny_pure (wpAny_pure ⟨rfl, h₅⟩)) fun _ _ h' => h')) fun _ _ h' => h'))
end
def Bp (X : Cx) (sc : Scope) (cl : List (Str × Addr)) (N : List Str) (C : Addr) (s : Shared) (H : Hp) (ex : List Addr) : Cx :=
 { X with N := N, s₀ := s, H₀ := H, env := compEnvC sc cl C X.env, outer := X.stack, stack := X.stack, ex := ex, fn := fun _ => false, pn := [], xe := fun _ _ => False }
def Bf (X : Cx) (caps : List Str) : List (Str × Addr) := caps.map fun n => (n, (X.env.cells.lookup n).getD 0)
def E8 (σ : St) (ix : List Nat) : St := ix.map fun i => (σ[i]?).join
structure BU (X : Cx) (sc : Scope) (x : Str) (caps : List Str) (ix : List Nat) : Prop where
 kind : sc.kind = .function
 nocell : ∀ y ∈ sc.names, y.2 ≠ .cell
 names : ∀ y ∈ sc.names, y.2 = .local → sc.names.lookup y.1 = some .local
 free : ∀ y ∈ sc.names, y.2 = .free → y.1 ∈ caps
 hx : sc.names.lookup x = some .local
 nd : (x :: caps).Nodup
 clos : closureFor sc X.env = pure (Bf X caps)
 cap : caps.map X.env.kindOf = caps.map fun _ => some NameKind.cell
 rl : (caps.map fun n => (relabel sc X.env).names.lookup n) = caps.map fun _ => some NameKind.cell
 slots : (ix.map fun i => X.N[i]?) = caps.map some
theorem OJ {α β : Type} {f g : α → β} {l : List α} (h : l.map f = l.map g) {a : α} (ha : a ∈ l) : f a = g a := by
 induction l with
 | nil => exact absurd ha (by simp)
 | cons b r ih =>
  rw [List.map_cons, List.map_cons, List.cons.injEq] at h
  rcases List.mem_cons.mp ha with rfl | ha
  ·exact h.1
  ·exact ih h.2 ha
theorem JQ {X : Cx} : ∀ {caps : List Str} {n : Str} {c : Addr}, (Bf X caps).lookup n = some c → n ∈ caps ∧ c = (X.env.cells.lookup n).getD 0
 | [], _, _, h => by simp [Bf] at h
 | a :: r, n, c, h => by
  have h : List.lookup n ((a, (X.env.cells.lookup a).getD 0) :: Bf X r) = some c := h
  rw [List.lookup_cons] at h
  cases e : n == a with
  | true =>
   rw [e] at h
   have e' : n = a := by simpa using e
   subst e'
   exact ⟨List.mem_cons_self, (Option.some.inj h).symm⟩
  | false =>
   rw [e] at h
   obtain ⟨h1, h2⟩ := JQ h
   exact ⟨List.mem_cons_of_mem _ h1, h2⟩
theorem Jy {X : Cx} : ∀ {caps : List Str} {n : Str}, n ∈ caps → ∃ c, (Bf X caps).lookup n = some c
 | [], _, h => absurd h (by simp)
 | a :: r, n, h => by
  show ∃ c, List.lookup n ((a, (X.env.cells.lookup a).getD 0) :: Bf X r) = some c
  rw [List.lookup_cons]
  cases e : n == a with
  | true => exact ⟨_, rfl⟩
  | false =>
   have ne : n ≠ a := by simpa using e
   exact Jy ((List.mem_cons.mp h).resolve_left ne)
section
variable {X : Cx} {pins : List (Addr × Obj)} {σ : St} {H : Hp} {s : Shared} {sc : Scope} {x : Str} {caps : List Str} {ix : List Nat}
theorem BU.cell {n : Str} {c : Addr} (S : BU X sc x caps ix) (ok : X.Ok) (h : (Bf X caps).lookup n = some c) : n ∈ caps ∧ X.env.cells.lookup n = some c := by
 obtain ⟨h1, h2⟩ := JQ h
 obtain ⟨c', e⟩ := ok.has n (.inl (OJ S.cap h1))
 refine ⟨h1, ?_⟩
 rw [h2, e]; rfl
theorem BU.isCap (S : BU X sc x caps ix) {y : Str} (h : (relabel sc X.env).names.lookup y = some .cell ∨ (relabel sc X.env).names.lookup y = some .free) : y ∈ caps := by
 have key : ∀ k, (relabel sc X.env).names.lookup y = some k → k = .cell ∨ k = .free → y ∈ caps := fun k hk hk2 => by
  have hm := PySem.mem_of_lookup hk
  obtain ⟨⟨n, k'⟩, hn, e⟩ := List.mem_map.mp (show (y, k) ∈ sc.names.map _ from hm)
  dsimp only at e
  split at e
  ·rename_i hc
   have hk' : k' = .free := by
    simp only [Bool.and_eq_true, beq_iff_eq] at hc
    exact hc.1.1
   injection e with e1 e2
   subst e1
   exact S.free _ hn hk'
  ·injection e with e1 e2
   subst e1 e2
   rcases hk2 with rfl | rfl
   ·exact absurd rfl (S.nocell _ hn)
   ·exact S.free _ hn rfl
 rcases h with h | h
 ·exact key _ h (.inl rfl)
 ·exact key _ h (.inr rfl)
theorem BU.ok (S : BU X sc x caps ix) (I : Inv X pins σ H s) {fp : List Addr} {C : Addr} (hC : s.heap.objs.size ≤ C) (hf : ∀ b ∈ fp, Ko X pins H b) (hb : ∀ b ∈ fp, b < s.heap.objs.size) :
  (Bp X sc (Bf X caps) (x :: caps) C s H fp).Ok where
 mod := I.ok.mod
 kind := S.kind
 glob := I.ok.glob
 blt := I.ok.blt
 above := hC
 inj := fun y z c h1 h2 => I.ok.inj y z c (S.cell I.ok h1).2 (S.cell I.ok h2).2
 has := fun y hy => Jy (S.isCap hy)
 cab := fun _ _ h => absurd h (by intro z; cases z)
 hd := I.ok.hd
 frames := I.ok.frames
 stk := .inl rfl
 exf := fun b hbf => ⟨Nat.ne_of_lt (Nat.lt_of_lt_of_le (hb b hbf) hC), fun y c h => (hf b hbf).2.2.2.2.1 y c (S.cell I.ok h).2⟩
 bs := I.bs
 bsz := Nat.le_trans I.ok.bsz I.sz
 noex := fun b o e hbf => by
  rcases (hf b hbf).2.2.2.1 with z | z
  ·exact I.ok.noex b o e z
  ·exact absurd (Nat.lt_of_lt_of_le (Heap.lt_size (I.ok.bs b o e).1) z) (Nat.lt_irrefl _)
 exfs := fun b hbf hm => by
  rcases List.mem_cons.mp (I.stkSub b hm) with z | z
  ·exact (hf b hbf).2.1 z
  ·exact (hf b hbf).2.2.1 z
 funs := I.stack
 frf := I.stkFree
theorem TJ (S : BU X sc x caps ix) : (E8 σ ix).length = caps.length := by
 have := congrArg List.length S.slots
 simpa [E8] using this
theorem Qs : ∀ {ix : List Nat} {caps : List Str} {N : List Str} {k : Nat} {n : Str}, (ix.map fun i => N[i]?) = caps.map some → caps[k]? = some n → ∃ i, ix[k]? = some i ∧ N[i]? = some n
 | [], [], _, _, _, _, h => by simp at h
 | [], _ :: _, _, _, _, h, _ => by simp at h
 | _ :: _, [], _, _, _, h, _ => by simp at h
 | i :: ix, a :: caps, N, 0, n, h, e => by
  rw [List.map_cons, List.map_cons, List.cons.injEq] at h
  simp at e; subst e
  exact ⟨i, rfl, h.1⟩
 | i :: ix, a :: caps, N, k + 1, n, h, e => by
  rw [List.map_cons, List.map_cons, List.cons.injEq] at h
  obtain ⟨j, h1, h2⟩ := Qs (k := k) h.2 (by simpa using e)
  exact ⟨j, by simpa using h1, h2⟩
theorem BU.start (S : BU X sc x caps ix) (I : Inv X pins σ H s) {fp : List Addr} {C D : Addr} {h' : Heap} {m : Str → Option Value} {tk : Nat} (hf : ∀ b ∈ fp, Ko X pins H b) (hb : ∀ b ∈ fp, b < s.heap.objs.size)
  (hD : s.heap.objs.size ≤ D) (hC : s.heap.objs.size ≤ C) (hDC : D ≠ C) (k : ∀ b o, s.heap.get? b = some o → h'.get? b = some o) (hd : h'.get? D = some { cls := .type "list", data := .seq #[] 0 }) (hn : h'.Ns C m) :
  Inv (Bp X sc (Bf X caps) (x :: caps) C s H fp) [] (none :: E8 σ ix) (upd H D (.lst [])) { s with heap := h', toks := tk } where
 ok := S.ok I hC hf hb
 os := rfl
 bare := I.bare
 base := Un.laid k hD (I.hok.fresh hD)
 loc := by
  refine ⟨m, hn, fun i y v h1 h2 _ => ?_⟩
  cases i with
  | zero => simp at h2
  | succ i =>
   have h1 : caps[i]? = some y := by simpa [Bp] using h1
   have h2 : (E8 σ ix)[i]? = some (some v) := by simpa using h2
   obtain ⟨j, e1, e2⟩ := Qs S.slots h1
   have h3 : σ[j]? = some (some v) := by
    unfold E8 at h2
    rw [List.getElem?_map, e1] at h2
    have h2 : (σ[j]?).join = some v := by simpa using h2
    cases q : σ[j]? with
    | none => rw [q] at h2; cases h2
    | some o => rw [q] at h2; cases o with
     | none => cases h2
     | some u => cases h2; rfl
   have hy : y ∈ caps := List.mem_of_getElem? h1
   obtain ⟨m0, hn0, hl0⟩ := I.loc
   obtain ⟨u, r, l⟩ := hl0 j y v e2 h3 (.inr (.inl (OJ S.cap hy)))
   refine ⟨u, r, .inr ⟨.inl (OJ S.rl hy), ?_⟩⟩
   rcases l with ⟨z, _⟩ | ⟨_, c, hc, hcell⟩
   ·have z2 : X.env.kindOf y = some .cell := OJ S.cap hy
    rw [z] at z2; cases z2
   ·obtain ⟨c', hc'⟩ := Jy (X := X) hy
    have := (S.cell I.ok hc').2
    rw [hc] at this; cases this
    obtain ⟨o, ho, hdt⟩ := hcell
    exact ⟨c, hc', o, k _ _ ho, hdt⟩
 cell := fun y c h => by
  obtain ⟨v, o, ho, hdt⟩ := I.cell y c (S.cell I.ok h).2
  exact ⟨v, o, k _ _ ho, hdt⟩
 free := by
  show upd H D (.lst []) C = none
  rw [AK (Ne.symm hDC)]; exact I.hok.fresh hC
 freeC := fun y c h => by
  have h2 := (S.cell I.ok h).2
  obtain ⟨v, o, ho, _⟩ := I.cell y c h2
  rw [AK (Nat.ne_of_lt (Nat.lt_of_lt_of_le (Heap.lt_size ho) hD))]
  exact I.freeC y c h2
 pin := fun p hp => absurd (show p ∈ ([] : List (Addr × Obj)) from hp) (by simp)
 hok := I.hok.laid k hD ⟨Nat.zero_le _, [], 0, .nil, hd⟩
 len := by
  show (none :: E8 σ ix).length = (x :: caps).length
  rw [List.length_cons, List.length_cons, TJ S]
theorem BU.back (S : BU X sc x caps ix) (I : Inv X pins σ H s) {fp : List Addr} {C : Addr} {ps : List (Addr × Obj)} {σ' : St} {H' : Hp} {s' : Shared} {h'' : Heap} (hf : ∀ b ∈ fp, Ko X pins H b) (hC : s.heap.objs.size ≤ C)
  (I' : Inv (Bp X sc (Bf X caps) (x :: caps) C s H fp) ps σ' H' s') (hs : Heap.SameBut C s'.heap h'') : Inv X pins σ H' { s' with heap := h'' } := by
 have J : Inv X pins σ H' s' := I.call' (ch := fp) I'.os I'.base I'.hok I'.bare fun b hb => ⟨(hf b hb).2.2.2.1, (hf b hb).2.1, (hf b hb).2.2.2.2.1, (hf b hb).2.2.2.2.2⟩
 refine J.turned (t' := s'.toks) (it := C) (fun b o hb e => (hs.2 b hb).trans e) I'.free ?_ (.inr (Nat.le_trans I.sz hC)) (fun y c h z => ?_) fun p hp z => ?_
 ·exact Nat.ne_of_gt (Nat.lt_of_lt_of_le I.lt hC)
 ·obtain ⟨v, o, ho, _⟩ := I.cell y c h
  exact absurd (Nat.lt_of_lt_of_le (Heap.lt_size ho) (z ▸ hC)) (Nat.lt_irrefl _)
 ·obtain ⟨e, _⟩ := I.pin p hp
  exact absurd (Nat.lt_of_lt_of_le (Heap.lt_size e) (z ▸ hC)) (Nat.lt_irrefl _)
end
def PTs (X : Cx) (ifs : List Expr) (tc : TT) : Prop :=
 ∀ (pins : List (Addr × Obj)) (s : Shared) (σ : St) (H : Hp) (Q : Bool → Hp → Prop), Inv X pins σ H s → tc σ H Q →
  wpAny (model X.prog X.w) X.A (forIn ifs true fun c r => if r = true then do let ok ← isTrue c X.env (eval c X.env); pure (ForInStep.yield ok) else pure (ForInStep.yield r)) (TP X pins σ Q) X.xe s
def GZ : TT := fun _ H Q => Q true H
theorem K1 {X : Cx} : PTs X [] GZ := fun _ _ _ H _ I h => wpAny_tests_nil ⟨H, I, h⟩
theorem K0 {X : Cx} {c : Expr} {t : TT} (h : PT X c t) : PTs X [c] t := fun pins s σ H Q I q => wpAny_tests_one (h pins s σ H Q I q)
def Gd (te : TE) (tc : TT) (caps : St) (J : It) (D : Addr) (H1 : Hp) (Q : Hp → Prop) : Prop :=
 ∃ W : Nat → Nat → List V → Hp → Prop, (∃ m, W 0 m [] (upd H1 D (.lst []))) ∧ ∀ i m ys H, W i m ys H →
  (J.stop i H ∧ Q H) ∨ (J.go i H ∧ ∀ v H', J.yld i H v H' → tc (some v :: caps) H' fun b H2 =>
   if b = true then te (some v :: caps) H2 fun y H3 => H3 D = some (.lst ys) ∧ ys.length < sizeLine ∧ ∃ m', m' < m ∧ W (i + 1) m' (ys ++ [y]) (upd H3 D (.lst (ys ++ [y])))
   else ∃ m', m' < m ∧ W (i + 1) m' ys H2)
def Gn (wi : TI) (te : TE) (tc : TT) (ix : List Nat) : TE := fun σ H Q => wi σ H fun J H1 => ∀ D, H1 D = none → Gd te tc (E8 σ ix) J D H1 fun H' => Q (.ref D) H'
theorem DW {M : Model} {A : Around} {α : Type} {t : Sem α} {Q : α → Shared → Prop} {E : Value → Shared → Prop} {s : Shared} (h : wpAny M A t Q (fun _ _ => False) s) : wpAny M A t Q E s := wpAny_mono h (fun _ _ q => q) fun _ _ z => z.elim
section
variable {X : Cx} {pins : List (Addr × Obj)} {σ : St} {H : Hp} {s : Shared} {sc : Scope} {x : Str} {caps : List Str} {ix : List Nat}
theorem K7 {elt iter : Expr} {px pos : Pos} {ifs : List Expr} {te : TE} {tc : TT} {J : It} {fp : List Addr} {it : Addr} {tn : Nat → Heap → Prop} {QH : Addr → Hp → Prop} {RR : Value → Addr → Result → Shared → Prop} {E : Value → Shared → Prop}
  (hc : X.calm = true) (S : BU X sc x caps ix) (he : ∀ C s H ex, PE (Bp X sc (Bf X caps) (x :: caps) C s H ex) elt te) (ht : ∀ C s H ex, PTs (Bp X sc (Bf X caps) (x :: caps) C s H ex) ifs tc)
  (I : Inv X pins σ H s) (T : RW X.prog X.w X.K (.Name x px) J fp it tn) (st : tn 0 s.heap) (hf : ∀ b ∈ fp, Ko X pins H b) (h : ∀ D, H D = none → Gd te tc (E8 σ ix) J D H (QH D))
  (hRR : ∀ D C (ps : List (Addr × Obj)) σ' H' s', s.heap.objs.size ≤ C → Inv (Bp X sc (Bf X caps) (x :: caps) C s H fp) ps σ' H' s' → QH D H' → RR (.ref D) C (.ok .next) s') :
  wpAny (model X.prog X.w) X.A (newList []) (fun acc s₃ => wpAny (model X.prog X.w) X.A (newFunctionEnv sc X.env.globals (Bf X caps) [] X.env.qual none .none (some X.env)) (fun cenv s₄ =>
   codeAny (model X.prog X.w) X.A (.compStart (.ListComp elt [⟨.Name x px, iter, ifs, 0⟩] sc pos) 0 (.ref it) acc { cenv with scope := relabel sc X.env }) (RR acc cenv.locals) s₄) E s₃) E s := by
 refine wpAny_newObj_type (wpAny_newFunctionEnv S.nocell (by intro y hy; simp at hy) (fun h₁ hns₁ hsb₁ => ?_) S.kind)
 dsimp only at hns₁ hsb₁ ⊢
 generalize hH2 : s.heap.push { cls := .type "list", dict := none, data := .seq ([] : List Value).toArray } = H2 at hns₁ hsb₁ ⊢
 have hC : H2.objs.size = s.heap.objs.size + 1 := by rw [← hH2, Heap.size_push]
 have hDC : s.heap.objs.size ≠ H2.objs.size := by rw [hC]; exact Nat.ne_of_lt (Nat.lt_succ_self _)
 have hCle : s.heap.objs.size ≤ H2.objs.size := by rw [hC]; exact Nat.le_succ _
 have below : ∀ b, b < s.heap.objs.size → b ≠ H2.objs.size := fun b hb => by rw [hC]; exact Nat.ne_of_lt (Nat.lt_succ_of_lt hb)
 have old : ∀ b o, s.heap.get? b = some o → h₁.get? b = some o := fun b o e => hsb₁.extBut b o (below b (Heap.lt_size e)) (Heap.get?_push_of_some _ (hH2 ▸ Heap.get?_push_of_some _ e))
 have hacc : h₁.get? s.heap.objs.size = some { cls := .type "list", data := .seq #[] 0 } := hsb₁.extBut _ _ hDC (Heap.get?_push_of_some _ (hH2 ▸ Heap.get?_push_size _ rfl))
 have hb : ∀ b ∈ fp, b < s.heap.objs.size := fun b hbf => by obtain ⟨o, e, _⟩ := T.obj _ _ st b hbf; exact Heap.lt_size e
 have I1 := S.start (tk := s.toks + ([] : List (Str × Value)).length) I hf hb (Nat.le_refl _) hCle hDC old hacc hns₁
 obtain ⟨W, ⟨m0, w0⟩, turn⟩ := h _ (I.hok.fresh (Nat.le_refl _))
 have stat : ∀ {H' : Hp}, (∀ b ∈ fp, H' b = none) → ∀ b ∈ fp, Ko (Bp X sc (Bf X caps) (x :: caps) H2.objs.size s H fp) [] H' b := fun {H'} hn b hbf =>
  ⟨hn b hbf, (I1.ok.exf b hbf).1, I1.ok.exfs b hbf, .inl hbf, (I1.ok.exf b hbf).2, fun p hp => absurd (show p ∈ ([] : List (Addr × Obj)) from hp) (by simp)⟩
 have st1 : tn 0 h₁ := T.keep _ _ _ st fun b hbf o e => old b o e
 have fr1 : ∀ b ∈ fp, upd H s.heap.objs.size (.lst []) b = none := fun b hbf => by
  rw [AK (Nat.ne_of_lt (hb b hbf))]; exact (hf b hbf).1
 have loop : ∀ s₃ : Shared, s₃ = { s with heap := h₁, toks := s.toks + ([] : List (Str × Value)).length } →
   codeAny (model X.prog X.w) X.A (.compLoop (.ListComp elt [⟨.Name x px, iter, ifs, 0⟩] sc pos) 0 (.ref it) (.ref s.heap.objs.size) (compEnvC sc (Bf X caps) H2.objs.size X.env))
    (RR (.ref s.heap.objs.size) H2.objs.size) s₃ := by
  rintro s₃ rfl
  refine Os (fun n s' => ∃ i ys H' ov, Inv (Bp X sc (Bf X caps) (x :: caps) H2.objs.size s H fp) [] (ov :: E8 σ ix) H' s' ∧ tn i s'.heap ∧ (∀ b ∈ fp, H' b = none) ∧ W i n ys H') rfl ?_ m0 ⟨0, [], _, none, I1, st1, fr1, w0⟩
  rintro n s3 ⟨i, ys, H3, ov, I3, st3, fr3, w3⟩
  rcases turn i n ys H3 w3 with ⟨stop, q⟩ | ⟨go, step⟩
  ·refine DW (thn (T.done (Bp X sc (Bf X caps) (x :: caps) H2.objs.size s H fp) rfl rfl rfl hc i [] s3 _ H3 _ I3 (stat fr3) st3 stop) fun r s4 ⟨hr, I4⟩ => ?_)
   subst hr
   exact hRR _ _ _ _ _ _ hCle I4 q
  ·refine DW (thn (T.item (Bp X sc (Bf X caps) (x :: caps) H2.objs.size s H fp) rfl rfl rfl hc i [] s3 _ H3 _ I3 (stat fr3) st3 go) fun r s4 ⟨u, hr, h4⟩ => ?_)
   subst hr
   refine DW (thn h4 fun _ s5 ⟨v, H5, I5, r5, y5, st5, fr5⟩ => ?_)
   have I5' := I5.pinned (stat fr5) (T.obj _ _ st5)
   have hg : PG (Bp X sc (Bf X caps) (x :: caps) H2.objs.size s H fp) (.Name x px) (GC 0) := AZ (i := 0) S.nd rfl (.inl (lookup_relabel_local S.hx)) (.inr (lookup_relabel_local S.hx))
   have again : ∀ {s7 : Shared} {H7 : Hp} {ys' : List V}, Inv (Bp X sc (Bf X caps) (x :: caps) H2.objs.size s H fp) ([] ++ Ld fp s5.heap) (some v :: E8 σ ix) H7 s7 → (∃ m', m' < n ∧ W (i + 1) m' ys' H7) →
     ∃ m, m < n ∧ ∃ i ys H' ov, Inv (Bp X sc (Bf X caps) (x :: caps) H2.objs.size s H fp) [] (ov :: E8 σ ix) H' s7 ∧ tn i s7.heap ∧ (∀ b ∈ fp, H' b = none) ∧ W i m ys H' := fun {s7 H7 ys'} I7 ⟨m', hm, w7⟩ => by
    refine ⟨m', hm, i + 1, ys', H7, some v, I7.unpinned, T.keep _ _ _ st5 fun b hb o e => (I7.pin (b, o) (List.mem_append_right _ (List.mem_append_right _ (Fl hb e)))).1, fun b hb => ?_, w7⟩
    obtain ⟨o, e, d⟩ := T.obj _ _ st5 b hb
    exact (I7.pin (b, o) (List.mem_append_right _ (List.mem_append_right _ (Fl hb e)))).2.1
   refine DW (thn (hg _ s5 _ H5 v u (fun σ' H' => σ' = some v :: E8 σ ix ∧ H' = H5) I5' r5 ⟨rfl, rfl⟩) fun _ s6 ⟨σ6, H6, I6, e6, e6'⟩ => ?_)
   subst e6 e6'
   refine DW (thn (ht _ _ _ _ _ s6 _ H6 _ I6 (step v H6 y5)) fun ok s7 ⟨H7, I7, q7⟩ => ?_)
   cases ok with
   | false => exact again I7 (by simpa using q7)
   | true =>
    rw [if_pos rfl] at q7
    rw [if_pos rfl]
    refine DW (thn (he _ _ _ _ _ s7 _ H7 _ I7 q7) fun yv s8 ⟨y, H8, I8, r8, hD8, hz8, q8⟩ => ?_)
    refine DW (thn (NG _ s8 _ H8 (.ref s.heap.objs.size) [y] _ [yv] (fun _ H9 => H9 = upd H8 s.heap.objs.size (.lst (ys ++ [y]))) I8 rfl (.cons r8 .nil) ⟨_, _, _, rfl, rfl, hD8, hz8, rfl⟩) fun _ s9 ⟨_, H9, I9, _, e9⟩ => ?_)
    subst e9
    exact again I9 q8
 exact codeAny_compStart_list (loop _ rfl) (T.self _ 0 _ _ _ st1 (loop _ rfl))
theorem turnC (I : Inv X pins σ H s) {C : Addr} (hC : s.heap.objs.size ≤ C) {σ2 : St} {H' : Hp} {s'' : Shared} {h'' : Heap} (J : Inv X pins σ2 H' s'') (hn : H' C = none) (hs : Heap.SameBut C s''.heap h'') : Inv X pins σ2 H' { s'' with heap := h'' } := by
 refine J.turned (t' := s''.toks) (it := C) (fun b o hb e => (hs.2 b hb).trans e) hn ?_ (.inr (Nat.le_trans I.sz hC)) (fun y c h z => ?_) fun p hp z => ?_
 ·exact Nat.ne_of_gt (Nat.lt_of_lt_of_le I.lt hC)
 ·obtain ⟨v, o, ho, _⟩ := I.cell y c h
  exact absurd (Nat.lt_of_lt_of_le (Heap.lt_size ho) (z ▸ hC)) (Nat.lt_irrefl _)
 ·obtain ⟨e, _⟩ := I.pin p hp
  exact absurd (Nat.lt_of_lt_of_le (Heap.lt_size e) (z ▸ hC)) (Nat.lt_irrefl _)
theorem JK {elt iter : Expr} {px pos : Pos} {ifs : List Expr} {wi : TI} {te : TE} {tc : TT} (hc : X.calm = true) (S : BU X sc x caps ix) (hi : PI X (.Name x px) iter wi)
  (he : ∀ C s H ex, PE (Bp X sc (Bf X caps) (x :: caps) C s H ex) elt te) (ht : ∀ C s H ex, PTs (Bp X sc (Bf X caps) (x :: caps) C s H ex) ifs tc)
  (hs : ∀ x, foldedSetIterable iter X.env x = pure x := by intro _; rfl) : PE X (.ListComp elt [⟨.Name x px, iter, ifs, 0⟩] sc pos) (Gn wi te tc ix) := by
 intro pins s σ H Q I h
 rw [eval_ListComp]
 refine wpAny_comprehension_free (use := none) rfl hs S.clos S.kind S.names (thn (hi pins s σ H _ I h) fun v s1 h1 => thn h1 fun itv s2 h2 => ?_)
 obtain ⟨it, fp, tn, J, H2, e, I2, T, st2, f2, q⟩ := h2
 subst e
 refine K7 (RR := fun acc C => compPost (model X.prog X.w) X.A X.xe none (EP X pins σ Q) acc C) (QH := fun D H' => Q (.ref D) H') hc S he ht I2 T st2 f2 q ?_
 intro D C ps σ' H' s' hC I' hq
 obtain ⟨m, hn, _⟩ := I'.loc
 exact ⟨m, hn, fun h'' hs => ⟨.ref D, H', S.back I2 f2 hC I' hs, rfl, hq⟩⟩
theorem IR {i : Nat} {y : Str} {py spos : Pos} {elt iter : Expr} {px pos : Pos} {ifs : List Expr} {wi : TI} {te : TE} {tc : TT} (hc : X.calm = true) (nd : X.N.Nodup) (hy : X.N[i]? = some y) (hl : Loc X.env.scope y) (S : BU X sc x caps ix) (hi : PI X (.Name x px) iter wi)
  (he : ∀ C s H ex, PE (Bp X sc (Bf X caps) (x :: caps) C s H ex) elt te) (ht : ∀ C s H ex, PTs (Bp X sc (Bf X caps) (x :: caps) C s H ex) ifs tc)
  (hsw : swapsWith (.ListComp elt [⟨.Name x px, iter, ifs, 0⟩] sc pos) (some (.Name y py)) spos.line X.env = pure true := by rfl)
  (hs : ∀ x, foldedSetIterable iter X.env x = pure x := by intro _; rfl) (hf : X.fn y = true ∨ X.env.scope.names.lookup y = some .local := by first | exact .inl rfl | exact .inr rfl | assumption) :
  PS X (.Assign [.Name y py] (.ListComp elt [⟨.Name x px, iter, ifs, 0⟩] sc pos) spos) (LD (Gn wi te tc ix) (GC i)) := by
 intro pins s σ H D I h
 rw [exec_Assign_Name_used _ _ _ _ hsw]
 refine wpAny_bind (wpAny_standAt (wpAny_bind ?_))
 show wpAny _ X.A (do let _ ← comprehension (.ListComp elt [⟨.Name x px, iter, ifs, 0⟩] sc pos) sc X.env _ (newList []) false (eval iter X.env) (some (assign (.Name y py) X.env))) _ _ s
 refine wpAny_bind (wpAny_mono (wpAny_comprehension_free (use := some (assign (.Name y py) X.env)) (Q := fun _ s' => SP X pins D .next s') rfl hs S.clos S.kind S.names
  (thn (hi pins s σ H _ I h) fun v s1 h1 => thn h1 fun itv s2 h2 => ?_)) (fun _ s' hq => wpAny_pure (wpAny_pure hq)) fun _ _ e => e)
 obtain ⟨it, fp, tn, J, H2, e, I2, T, st2, f2, q⟩ := h2
 subst e
 refine K7 (RR := fun acc C => compPost (model X.prog X.w) X.A X.xe (some (assign (.Name y py) X.env)) (fun _ s' => SP X pins D .next s') acc C) (QH := fun L H' => D.nx (σ.set i (some (.ref L))) H') hc S he ht I2 T st2 f2 q ?_
 intro L C ps σ' H' s' hC I' hq
 show wpAny _ X.A (assign (.Name y py) X.env (.ref L)) _ _ s'
 have J := S.back I2 f2 hC I' (Heap.SameBut.refl ..)
 refine wpAny_assign_Name (Nj (v := .ref L) (u := .ref L) J nd hy hl rfl (fun s'' I'' ⟨a, hsb, ha⟩ => ?_) hf)
 obtain ⟨m, hn, _⟩ := I'.loc
 have haC : C ≠ a := by
  rcases ha with z | z
  ·rw [z]; exact Nat.ne_of_gt (Nat.lt_of_lt_of_le I2.lt hC)
  ·obtain ⟨v, o, ho, _⟩ := I2.cell y a z
   exact Nat.ne_of_gt (Nat.lt_of_lt_of_le (Heap.lt_size ho) hC)
 exact ⟨m, hn.sameBut hsb haC, fun h'' hs'' => ⟨_, H', turnC I2 hC I'' I'.free hs'', hq⟩⟩
end
def Qt (n i : Nat) (ys : List V) (D : Addr) (Pv : Nat → List V → Hp → Prop) (y : V) (H3 : Hp) : Prop :=
 H3 D = some (.lst ys) ∧ ys.length < sizeLine ∧ ∃ m', m' < n - i ∧ m' = n - (i + 1) ∧ i + 1 ≤ n ∧ (ys ++ [y]).length = i + 1 ∧ Pv (i + 1) (ys ++ [y]) (upd H3 D (.lst (ys ++ [y])))
theorem Qt.of {n i : Nat} {ys : List V} {D : Addr} {Pv : Nat → List V → Hp → Prop} {y : V} {H3 : Hp} (hn : n ≤ sizeLine) (hi : i < n) (hl : ys.length = i) (h1 : H3 D = some (.lst ys)) (h2 : Pv (i + 1) (ys ++ [y]) (upd H3 D (.lst (ys ++ [y])))) : Qt n i ys D Pv y H3 :=
 ⟨h1, by omega, _, by omega, rfl, hi, by rw [List.length_append, hl]; rfl, h2⟩
theorem Rh {K : PySem.W.Frag} {a : Addr} {xs : List V} {te : TE} {caps : St} {D : Addr} {H1 : Hp} {Q : Hp → Prop} (Pv : Nat → List V → Hp → Prop) (h0 : Pv 0 [] (upd H1 D (.lst []))) (hl : ∀ i ys H, i ≤ xs.length → Pv i ys H → SqL K H a xs)
  (hs : ∀ i x ys H, xs[i]? = some x → ys.length = i → Pv i ys H → te (some x :: caps) H (Qt xs.length i ys D Pv))
  (hd : ∀ ys H, ys.length = xs.length → Pv xs.length ys H → Q H) : Gd te GZ caps (Itl K a) D H1 Q := by
 refine ⟨fun i m ys H => m = xs.length - i ∧ i ≤ xs.length ∧ ys.length = i ∧ Pv i ys H, ⟨xs.length, rfl, Nat.zero_le _, rfl, h0⟩, ?_⟩
 rintro i m ys H ⟨rfl, hi, hy, p⟩
 have q := hl i ys H hi p
 by_cases hlt : i < xs.length
 ·refine .inr ⟨⟨xs, xs[i], q, by simp [hlt]⟩, fun v H' y => ?_⟩
  obtain ⟨e, y⟩ := y
  subst e
  unfold GZ
  dsimp only
  rw [if_pos rfl]
  exact hs i v ys _ (y xs q) hy p
 ·have e : i = xs.length := by omega
  subst e
  exact .inl ⟨⟨xs, q, by simp⟩, hd ys H hy p⟩
theorem B1 {K : PySem.W.Frag} {a : Addr} {xs : List V} {te : TE} {tc : TT} {caps : St} {D : Addr} {H1 : Hp} {Q : Hp → Prop} (Pv : Nat → List V → Hp → Prop) (h0 : Pv 0 [] (upd H1 D (.lst []))) (hl : ∀ i ys H, i ≤ xs.length → Pv i ys H → SqL K H a xs)
  (hs : ∀ i x ys H, xs[i]? = some x → Pv i ys H → tc (some x :: caps) H fun b H2 =>
   if b = true then te (some x :: caps) H2 fun y H3 => H3 D = some (.lst ys) ∧ ys.length < sizeLine ∧ ∃ m', m' < xs.length - i ∧ m' = xs.length - (i + 1) ∧ i + 1 ≤ xs.length ∧ Pv (i + 1) (ys ++ [y]) (upd H3 D (.lst (ys ++ [y])))
   else ∃ m', m' < xs.length - i ∧ m' = xs.length - (i + 1) ∧ i + 1 ≤ xs.length ∧ Pv (i + 1) ys H2)
  (hd : ∀ ys H, Pv xs.length ys H → Q H) : Gd te tc caps (Itl K a) D H1 Q := by
 refine ⟨fun i m ys H => m = xs.length - i ∧ i ≤ xs.length ∧ Pv i ys H, ⟨xs.length, rfl, Nat.zero_le _, h0⟩, ?_⟩
 rintro i m ys H ⟨rfl, hi, p⟩
 have q := hl i ys H hi p
 by_cases hlt : i < xs.length
 ·refine .inr ⟨⟨xs, xs[i], q, by simp [hlt]⟩, fun v H' y => ?_⟩
  obtain ⟨e, y⟩ := y
  subst e
  exact hs i v ys _ (y xs q) p
 ·have e : i = xs.length := by omega
  subst e
  exact .inl ⟨⟨xs, q, by simp⟩, hd ys H p⟩
theorem AL.updFresh {H H3 : Hp} {D : Addr} {o : HO} (s : AL H H3) (hD : H D = none) : AL H (L2.upd H3 D o) := fun b u e => by
 rw [AK (Ap e hD)]; exact s b u e
end L2
set_option Elab.async false
set_option linter.all false
set_option maxRecDepth 100000
set_option maxHeartbeats 4000000
namespace L2
open PySem PySem.W PyProof.Rows
def KOk (n : Nat) (lt : Nat → Nat → Bool) {α : Type} : KasT α → (α → Prop) → Prop
 | .ret a, Q => Q a
 | .ask i j k, Q => i < n ∧ j < n ∧ KOk n lt (k (lt i j)) Q
theorem KOk.bind {n : Nat} {lt : Nat → Nat → Bool} {α β : Type} {f : α → KasT β} {Q : β → Prop} : ∀ {t : KasT α}, KOk n lt t (fun a => KOk n lt (f a) Q) → KOk n lt (t.bind f) Q
 | .ret _, h => h
 | .ask _ _ k, h => ⟨h.1, h.2.1, KOk.bind (t := k _) h.2.2⟩
theorem KOk.mono {n : Nat} {lt : Nat → Nat → Bool} {α : Type} {Q Q' : α → Prop} (hq : ∀ a, Q a → Q' a) : ∀ {t : KasT α}, KOk n lt t Q → KOk n lt t Q'
 | .ret _, h => hq _ h
 | .ask _ _ k, h => ⟨h.1, h.2.1, KOk.mono hq (t := k _) h.2.2⟩
theorem KOk.wp {n : Nat} {lt : Nat → Nat → Bool} {α : Type} {cmp : Nat → Nat → (Bool → Shared → Prop) → Shared → Prop} {Q : α → Shared → Prop} {s : Shared} (hc : ∀ i j C, i < n → j < n → C (lt i j) s → cmp i j C s) : ∀ {t : KasT α}, KOk n lt t (fun a => Q a s) → t.kasWp cmp Q s
 | .ret _, h => h
 | .ask i j k, h => hc i j _ h.1 h.2.1 (KOk.wp hc (t := k _) h.2.2)
structure STO (n : Nat) (lt : Nat → Nat → Bool) : Prop where
 tri : ∀ i j, i < n → j < n → i ≠ j → lt i j = true ∨ lt j i = true
 asym : ∀ i j, lt i j = true → lt j i = false
 trans : ∀ i j k, lt i j = true → lt j k = true → lt i k = true
section
variable {n : Nat} {lt : Nat → Nat → Bool} {p : Array Nat}
def at0 (p : Array Nat) (i : Nat) : Nat := p.getD i 0
structure PR (n : Nat) (p : Array Nat) : Prop where
 pm : p.Perm (List.range n).toArray
theorem PR.size (h : PR n p) : p.size = n := by simpa using h.pm.size_eq
theorem PR.bd (h : PR n p) {i : Nat} (hi : i < n) : at0 p i < n := by
 have hs := h.size
 have hm : p[i]'(by omega) ∈ p := Array.getElem_mem _
 have := (h.pm.mem_iff).mp hm
 have e : at0 p i = p[i]'(by omega) := by unfold at0; rw [Array.getD_eq_getD_getElem?, Array.getElem?_eq_getElem (by omega)]; rfl
 rw [e]
 simpa using this
theorem PR.inj (h : PR n p) {i j : Nat} (hi : i < n) (hj : j < n) (e : at0 p i = at0 p j) : i = j := by
 have hs := h.size
 have hnd : p.toList.Nodup := by
  have hp : p.toList.Perm (List.range n) := by simpa using Array.perm_iff_toList_perm.mp h.pm
  exact hp.nodup_iff.mpr List.nodup_range
 have ei : at0 p i = p.toList[i]'(by simpa using (by omega : i < p.size)) := by unfold at0; rw [Array.getD_eq_getD_getElem?, Array.getElem?_eq_getElem (by omega)]; simp
 have ej : at0 p j = p.toList[j]'(by simpa using (by omega : j < p.size)) := by unfold at0; rw [Array.getD_eq_getD_getElem?, Array.getElem?_eq_getElem (by omega)]; simp
 rw [ei, ej] at e
 exact (List.getElem_inj hnd).mp e
def Srt (lt : Nat → Nat → Bool) (p : Array Nat) (k : Nat) : Prop := ∀ i, i + 1 < k → lt (at0 p i) (at0 p (i + 1)) = true
def Dsc (lt : Nat → Nat → Bool) (p : Array Nat) (k : Nat) : Prop := ∀ i, i + 1 < k → lt (at0 p (i + 1)) (at0 p i) = true
theorem Srt.all (S : STO n lt) {k : Nat} (h : Srt lt p k) : ∀ {i j : Nat}, i < j → j < k → lt (at0 p i) (at0 p j) = true := by
 intro i j hij hj
 induction j with
 | zero => omega
 | succ j ih =>
  by_cases e : i = j
  ·subst e; exact h i hj
  ·exact S.trans _ _ _ (ih (by omega) (by omega)) (h j hj)
theorem QK (S : STO n lt) (hp : PR n p) : ∀ (f a : Nat), 1 ≤ a → a + f ≤ n → Srt lt p a → KOk n lt (kas_asc p f a) (fun m => a ≤ m ∧ m ≤ a + f ∧ Srt lt p m ∧ (m < a + f → lt (at0 p m) (at0 p (m - 1)) = true))
 | 0, a, h1, h2, hs => ⟨Nat.le_refl _, Nat.le_refl _, hs, fun h => by omega⟩
 | f + 1, a, h1, h2, hs => by
  refine ⟨hp.bd (i := a) (by omega), hp.bd (i := a - 1) (by omega), ?_⟩
  cases c : lt (p.getD a 0) (p.getD (a - 1) 0) with
  | true => exact ⟨Nat.le_refl _, by omega, hs, fun _ => c⟩
  | false =>
   have hs' : Srt lt p (a + 1) := fun i hi => by
    by_cases e : i + 1 = a
    ·have e' : i = a - 1 := by omega
     subst e'
     rcases S.tri (at0 p (a - 1)) (at0 p a) (hp.bd (by omega)) (hp.bd (by omega)) (fun z => by have := hp.inj (by omega) (by omega) z; omega) with z | z
     ·rw [show a - 1 + 1 = a by omega]; exact z
     ·have z' : lt (p.getD a 0) (p.getD (a - 1) 0) = true := z
      rw [c] at z'; cases z'
    ·exact hs i (by omega)
   refine KOk.mono (fun m hm => ?_) (QK S hp f (a + 1) (by omega) (by omega) hs')
   exact ⟨by omega, by omega, hm.2.2.1, fun h => hm.2.2.2 (by omega)⟩
theorem Qx (S : STO n lt) (hp : PR n p) : ∀ (f a : Nat), 1 ≤ a → a + f ≤ n → Dsc lt p a → KOk n lt (kas_desc f p a 0) (fun r => r.1 = p ∧ r.2.2 = 0 ∧ a ≤ r.2.1 ∧ r.2.1 ≤ a + f ∧ Dsc lt p r.2.1)
 | 0, a, h1, h2, hs => ⟨rfl, rfl, Nat.le_refl _, Nat.le_refl _, hs⟩
 | f + 1, a, h1, h2, hs => by
  refine ⟨hp.bd (i := a) (by omega), hp.bd (i := a - 1) (by omega), ?_⟩
  cases c : lt (p.getD a 0) (p.getD (a - 1) 0) with
  | true =>
   dsimp only
   rw [if_pos rfl, if_neg (by omega)]
   have hs' : Dsc lt p (a + 1) := fun i hi => by
    by_cases e : i + 1 = a
    ·have e' : i = a - 1 := by omega
     subst e'
     rw [show a - 1 + 1 = a by omega]; exact c
    ·exact hs i (by omega)
   refine KOk.mono (fun m hm => ?_) (Qx S hp f (a + 1) (by omega) (by omega) hs')
   exact ⟨hm.1, hm.2.1, by omega, by omega, hm.2.2.2.2⟩
  | false =>
   dsimp only
   rw [if_neg (by simp)]
   refine ⟨hp.bd (i := a - 1) (by omega), hp.bd (i := a) (by omega), ?_⟩
   have d : lt (p.getD (a - 1) 0) (p.getD a 0) = true := by
    rcases S.tri (at0 p (a - 1)) (at0 p a) (hp.bd (by omega)) (hp.bd (by omega)) (fun z => by have := hp.inj (by omega) (by omega) z; omega) with z | z
    ·exact z
    ·have z' : lt (p.getD a 0) (p.getD (a - 1) 0) = true := z
     rw [c] at z'; cases z'
   rw [d]
   dsimp only
   rw [if_pos rfl]
   exact ⟨rfl, rfl, Nat.le_refl _, Nat.le_add_right _ _, hs⟩
theorem SU (hp : PR n p) {m k : Nat} (hm : m ≤ n) (hk : k < m) : at0 (kas_rev p 0 m) k = at0 p (m - 1 - k) := by
 have hs := hp.size
 unfold at0 kas_rev
 rw [Array.getD_eq_getD_getElem?, Array.getD_eq_getD_getElem?, getElem?_mirror_all (by omega), if_pos ⟨by omega, hk⟩]
 rw [show 0 + m - 1 - k = m - 1 - k by omega]
theorem Wp (S : STO n lt) (hp : PR n p) {m : Nat} (hm : m ≤ n) (h : Dsc lt p m) : PR n (kas_rev p 0 m) ∧ Srt lt (kas_rev p 0 m) m := by
 refine ⟨⟨(mirror_perm ..).trans hp.pm⟩, fun i hi => ?_⟩
 rw [SU hp hm (by omega), SU hp hm (by omega)]
 have := h (m - 1 - (i + 1)) (by omega)
 rw [show m - 1 - (i + 1) + 1 = m - 1 - i by omega] at this
 exact this
theorem Sf (S : STO n lt) (hp : PR n p) {m : Nat} (h1 : 1 ≤ m) (hm : m ≤ n) (h : Dsc lt p m) : KOk n lt (kas_tail3 m n p) (fun r => PR n r.2 ∧ r.1 ≤ n ∧ 1 ≤ r.1 ∧ Srt lt r.2 r.1) := by
 obtain ⟨hp', hs⟩ := Wp S hp hm h
 refine KOk.bind (KOk.mono (fun k hk => ?_) (QK S hp' (n - m) m h1 (by omega) hs))
 exact ⟨hp', by omega, by omega, hk.2.2.1⟩
theorem Oj (S : STO n lt) (hp : PR n p) (h2 : 2 ≤ n) (h : lt (at0 p 1) (at0 p 0) = true) : KOk n lt (kas_descPart 1 n p) (fun r => PR n r.2 ∧ r.1 ≤ n ∧ 1 ≤ r.1 ∧ Srt lt r.2 r.1) := by
 have hs : Dsc lt p 2 := fun i hi => by
  have e : i = 0 := by omega
  subst e; exact h
 refine KOk.bind (KOk.mono (fun r hr => ?_) (Qx S hp (n - (1 + 1)) (1 + 1) (by omega) (by omega) hs))
 obtain ⟨e1, e2, h3, h4, h5⟩ := hr
 rw [e2, if_neg (by omega), e1]
 exact Sf S hp (by omega) (by omega) h5
theorem Sl (S : STO n lt) (hp : PR n p) (h2 : 2 ≤ n) : KOk n lt (kas_count n p) (fun r => PR n r.2 ∧ r.1 ≤ n ∧ 1 ≤ r.1 ∧ Srt lt r.2 r.1) := by
 refine KOk.bind (KOk.mono (fun m hm => ?_) (QK S hp (n - 1) 1 (Nat.le_refl _) (by omega) (fun i hi => by omega)))
 obtain ⟨m1, m2, hs, hstop⟩ := hm
 by_cases e : m = n
 ·rw [if_pos (by simp [e])]
  exact ⟨hp, by omega, m1, hs⟩
 ·rw [if_neg (by simp [e])]
  by_cases e1 : m > 1
  ·rw [if_pos e1]
   refine ⟨hp.bd (i := 0) (by omega), hp.bd (i := m - 1) (by omega), ?_⟩
   have c : lt (p.getD 0 0) (p.getD (m - 1) 0) = true := Srt.all S hs (i := 0) (j := m - 1) (by omega) (by omega)
   rw [c]
   dsimp only
   rw [if_pos rfl]
   exact ⟨hp, by omega, m1, hs⟩
  ·rw [if_neg e1]
   have e2 : m = 1 := by omega
   subst e2
   exact Oj S hp h2 (hstop (by omega))
theorem Lj (S : STO n lt) (hp : PR n p) {k : Nat} (hk : k < n) (hs : Srt lt p k) : ∀ (f l r : Nat), r - l ≤ f → l ≤ r → r ≤ k → (∀ i, i < l → lt (at0 p i) (at0 p k) = true) → (∀ i, r ≤ i → i < k → lt (at0 p k) (at0 p i) = true) →
  KOk n lt (kas_place p k f l r) (fun l => l ≤ k ∧ (∀ i, i < l → lt (at0 p i) (at0 p k) = true) ∧ ∀ i, l ≤ i → i < k → lt (at0 p k) (at0 p i) = true)
 | 0, l, r, h1, h2, h3, h4, h5 => ⟨by omega, h4, fun i hi hik => h5 i (by omega) hik⟩
 | f + 1, l, r, h1, h2, h3, h4, h5 => by
  unfold kas_place
  by_cases e : l ≥ r
  ·rw [if_pos e]
   exact ⟨by omega, h4, fun i hi hik => h5 i (by omega) hik⟩
  ·rw [if_neg e]
   refine ⟨hp.bd (i := k) hk, hp.bd (i := (l + r) / 2) (by omega), ?_⟩
   have hmid : (l + r) / 2 < r ∧ l ≤ (l + r) / 2 := by omega
   cases c : lt (p.getD k 0) (p.getD ((l + r) / 2) 0) with
   | true =>
    dsimp only
    rw [if_pos rfl]
    refine Lj S hp hk hs f l ((l + r) / 2) (by omega) (by omega) (by omega) h4 fun i hi hik => ?_
    by_cases e2 : i = (l + r) / 2
    ·subst e2; exact c
    ·exact S.trans _ _ _ c (Srt.all S hs (by omega) hik)
   | false =>
    dsimp only
    rw [if_neg (by simp)]
    have d : lt (at0 p ((l + r) / 2)) (at0 p k) = true := by
     rcases S.tri (at0 p ((l + r) / 2)) (at0 p k) (hp.bd (by omega)) (hp.bd hk) (fun z => by have := hp.inj (by omega) hk z; omega) with z | z
     ·exact z
     ·have z' : lt (p.getD k 0) (p.getD ((l + r) / 2) 0) = true := z
      rw [c] at z'; cases z'
    refine Lj S hp hk hs f ((l + r) / 2 + 1) r (by omega) (by omega) h3 (fun i hi => ?_) h5
    by_cases e2 : i = (l + r) / 2
    ·subst e2; exact d
    ·exact S.trans _ _ _ (Srt.all S hs (i := i) (j := (l + r) / 2) (by omega) (by omega)) d
theorem Mw (hp : PR n p) {k l j : Nat} (hk : k < n) (hl : l ≤ k) : at0 (bubble p k (k - l)) j = if j = l then at0 p k else if l < j ∧ j ≤ k then at0 p (j - 1) else at0 p j := by
 have hs := hp.size
 unfold at0
 rw [Array.getD_eq_getD_getElem?, getElem?_bubble (by omega) (k - l) (by omega) j, show k - (k - l) = l by omega]
 repeat' split
 all_goals rw [Array.getD_eq_getD_getElem?]
theorem TB (S : STO n lt) : ∀ (f k : Nat) (p : Array Nat), PR n p → k + f = n → Srt lt p k → KOk n lt (kas_bin f p k) (fun q => PR n q ∧ Srt lt q n)
 | 0, k, p, hp, hk, hs => by
  have e : k = n := by omega
  subst e
  exact ⟨hp, hs⟩
 | f + 1, k, p, hp, hk, hs => by
  refine KOk.bind (KOk.mono (fun l hl => ?_) (Lj S hp (by omega) hs k 0 k (by omega) (by omega) (Nat.le_refl _) (fun i hi => by omega) (fun i h1 h2 => by omega)))
  obtain ⟨h1, h2, h3⟩ := hl
  refine TB S f (k + 1) _ ⟨(bubble_perm ..).trans hp.pm⟩ (by omega) fun i hi => ?_
  rw [Mw hp (by omega) h1, Mw hp (by omega) h1]
  by_cases c1 : i + 1 < l
  ·rw [if_neg (by omega), if_neg (by omega), if_neg (by omega), if_neg (by omega)]
   exact hs i (by omega)
  ·by_cases c2 : i + 1 = l
   ·rw [if_neg (by omega), if_neg (by omega), if_pos c2]
    exact h2 i (by omega)
   ·by_cases c3 : i = l
    ·rw [if_pos c3, if_neg (by omega), if_pos (by omega), show i + 1 - 1 = i by omega]
     exact h3 i (by omega) (by omega)
    ·rw [if_neg c3, if_pos (by omega), if_neg (by omega), if_pos (by omega), show i + 1 - 1 = i by omega]
     have := hs (i - 1) (by omega)
     rw [show i - 1 + 1 = i by omega] at this
     exact this
theorem UA (S : STO n lt) (h2 : 2 ≤ n) : KOk n lt (kas_sort n) (fun q => PR n q ∧ Srt lt q n) := by
 refine KOk.bind (KOk.mono (fun r hr => ?_) (Sl S ⟨Array.Perm.refl _⟩ h2))
 obtain ⟨h1, h3, h4, h5⟩ := hr
 by_cases e : r.1 < n
 ·rw [if_pos e, show max r.1 1 = r.1 by omega]
  exact TB S _ _ _ h1 (by omega) h5
 ·rw [if_neg e]
  exact ⟨h1, by have e2 : r.1 = n := by omega
                rw [← e2]; exact h5⟩
end
section
variable {prog : Program} {w : World} {A : Around} {E : Value → Shared → Prop} {s : Shared}
def Ej (vs : List Value) (p : Array Nat) : List Value := p.toList.map fun i => vs.getD i Value.none
theorem R3 {vs : List Value} {p : Array Nat} (hp : PR vs.length p) : (Ej vs p).length = vs.length := by
 unfold Ej; rw [List.length_map, Array.length_toList, hp.size]
theorem Kj {vs : List Value} (h : vs.length < 2) : Ej vs (List.range vs.length).toArray = vs := by
 match vs, h with
 | [], _ => rfl
 | [_], _ => rfl
theorem Tj (vs : List Value) : (vs.toArray.zip vs.toArray).map (·.2) = vs.toArray := by
 apply Array.toList_inj.mp
 rw [Array.toList_map, Array.toList_zip]
 exact List.map_snd_zip (Nat.le_refl _)
theorem Sz {a : Addr} {vs : List Value} {n : Nat} {lt : Nat → Nat → Bool} {P : PySem.Fin → Shared → Prop} (ho : s.heap.get? a = some (seqObj "list" vs.toArray n)) (S : STO vs.length lt) (h64 : vs.length < 64)
  (hc : 2 ≤ vs.length → ∀ h' : Heap, (∀ b o, b ≠ a → s.heap.get? b = some o → h'.get? b = some o) → ∃ κ : SortKind,
   (∀ (R : SortKind → Shared → Prop), R κ { s with heap := h' } → wpAny (model prog w) A (keyKind' vs.toArray) R (fun _ _ => False) { s with heap := h' }) ∧
   ∀ i j (C : Bool → Shared → Prop), i < vs.length → j < vs.length → C (lt i j) { s with heap := h' } → wpAny (model prog w) A (keyLt' κ (vs.getD i Value.none) (vs.getD j Value.none)) C (fun _ _ => False) { s with heap := h' })
  (h : ∀ (h' : Heap) (p : Array Nat) (c : Nat), (∀ b o, b ≠ a → s.heap.get? b = some o → h'.get? b = some o) → h'.get? a = some (seqObj "list" (Ej vs p).toArray c) → PR vs.length p → Srt lt p vs.length → P (.done (.ret .none)) { s with heap := h' }) :
  wpAny (model prog w) A (Builtin.«list.sort» ⟨[.ref a], []⟩) P E s := by
 have ha : a < s.heap.objs.size := Heap.lt_size ho
 have s1 := Heap.SameBut.update s.heap a (Obj.mapSeq fun _ => (#[] : Array Value))
 obtain ⟨e1, ho1⟩ : ∃ e1, (s.heap.update a (Obj.mapSeq fun _ => (#[] : Array Value))).get? a = some (seqObj "list" #[] e1) := ⟨_, get?_update_seq ho fun _ => #[]⟩
 rw [list_sort_plain]
 refine wpAny_bind (listItems_at ho rfl ?_)
 refine wpAny_bind (listUpdate_at ho rfl ?_ (by rw [List.size_toArray, sizeLine_eq]; omega) (Nat.zero_le _))
 refine wpAny_bind (seqEpoch_at ho1 rfl ?_)
 refine wpAny_bind (wpAny_newTuple ?_ (by show vs.length ≤ _; rw [sizeLine_eq]; omega))
 refine wpAny_bind (wpAny_newList ?_ (Nat.zero_le _))
 refine wpAny_holding ?_
 generalize hH : ((s.heap.update a (Obj.mapSeq fun _ => (#[] : Array Value))).push (seqObj "tuple" vs.toArray 0)).push (seqObj "list" #[] 0) = H3
 show wpAny (model prog w) A _ P E { s with heap := H3 }
 dsimp only
 have keep3 : ∀ b o, b ≠ a → s.heap.get? b = some o → H3.get? b = some o := fun b o hb e => by
  rw [← hH]; exact Heap.get?_push_of_some _ (Heap.get?_push_of_some _ ((s1.2 b hb).trans e))
 have at3 : H3.get? a = some (seqObj "list" #[] e1) := by rw [← hH]; exact Heap.get?_push_of_some _ (Heap.get?_push_of_some _ ho1)
 have fin : ∀ (p : Array Nat), PR vs.length p → Srt lt p vs.length → P (.done (.ret .none)) { s with heap := H3.update a (Obj.mapSeq fun _ => (Ej vs p).toArray) } := fun p hp hs => by
  obtain ⟨c2, hc2⟩ : ∃ c2, (H3.update a (Obj.mapSeq fun _ => (Ej vs p).toArray)).get? a = some (seqObj "list" (Ej vs p).toArray c2) := ⟨_, get?_update_seq at3 fun _ => (Ej vs p).toArray⟩
  exact h _ p c2 (fun b o hb e => ((Heap.SameBut.update H3 a _).2 b hb).trans (keep3 b o hb e)) hc2 hp hs
 by_cases h2 : vs.toArray.size < 2
 ·rw [if_pos h2, if_pos h2]
  have hl2 : vs.length < 2 := by simpa using h2
  refine wpAny_bind (wpAny_pure ?_)
  rw [StateT.run_pure]
  refine wpAny_bind (wpAny_pure ?_)
  dsimp only
  refine wpAny_bind (seqEpoch_at at3 rfl ?_)
  have ez : ((vs.toArray.zip vs.toArray).map (·.2)) = (Ej vs (List.range vs.length).toArray).toArray := by
   rw [Kj hl2]
   exact Tj vs
  show wpAny _ _ (Builtin.List.listUpdate (.ref a) (fun _ => (vs.toArray.zip vs.toArray).map (·.2)) >>= _) _ _ _
  rw [ez]
  refine wpAny_bind (listUpdate_at at3 rfl ?_ (Nat.zero_le _) (by show (Ej vs (List.range vs.length).toArray).toArray.size ≤ _; rw [Kj hl2, List.size_toArray, sizeLine_eq]; omega))
  simp only [bne_self_eq_false, Bool.false_eq_true, if_false]
  exact wpAny_pure (fin _ ⟨Array.Perm.refl _⟩ fun i hi => by omega)
 ·rw [if_neg h2, if_neg h2]
  have hl2 : 2 ≤ vs.length := by simpa using h2
  obtain ⟨κ, k1, k2⟩ := hc hl2 H3 keep3
  refine wpAny_bind (wpAny_mono (k1 (fun κ' s' => κ' = κ ∧ s' = { s with heap := H3 }) ⟨rfl, rfl⟩) ?_ fun _ _ x => x.elim)
  rintro κ' s' ⟨rfl, rfl⟩
  refine wpAny_bind (wpAny_mono (kat_run (Q := fun st' s' => ∃ p : Array Nat, arrOf st' = p.map (kas_item (vs.toArray.zip vs.toArray)) ∧ failedOf st' = none ∧ PR vs.length p ∧ Srt lt p vs.length ∧ s' = { s with heap := H3 })
   (G := fun p s' => PR vs.length p ∧ Srt lt p vs.length ∧ s' = { s with heap := H3 }) rfl hl2 h64 (fun p' st' s' a1 a2 a3 a4 => ⟨p', a2, a3, a4⟩)
   (KOk.wp (fun i j C hi hj q => k2 i j C hi hj q) (KOk.mono (fun q hq => ⟨hq.1, hq.2, rfl⟩) (UA S hl2)))) ?_ fun _ _ e => e)
  rintro ⟨⟨⟩, st'⟩ s' ⟨p, har, hf, hp, hs, rfl⟩
  dsimp only
  refine wpAny_bind (seqEpoch_at at3 rfl ?_)
  have hout : (arrOf st').map (·.2) = (Ej vs p).toArray := kat_snds rfl har
  rw [hout]
  refine wpAny_bind (listUpdate_at at3 rfl ?_ (Nat.zero_le _) (by show (Ej vs p).toArray.size ≤ _; rw [List.size_toArray, R3 hp, sizeLine_eq]; omega))
  rw [hf]
  simp only [bne_self_eq_false, Bool.false_eq_true, if_false]
  exact wpAny_pure (fin p hp hs)
theorem RN {l : Addr} {vs : List Value} {lt : Nat → Nat → Bool} {Q : Value → Shared → Prop} (hl : s.heap.IsList l vs.toArray) (S : STO vs.length lt) (h64 : vs.length < 64)
  (hc : 2 ≤ vs.length → ∀ h' : Heap, (∀ b o, s.heap.get? b = some o → h'.get? b = some o) → ∃ κ : SortKind,
   (∀ (R : SortKind → Shared → Prop), R κ { s with heap := h' } → wpAny (model prog w) A.in1.in1 (keyKind' vs.toArray) R (fun _ _ => False) { s with heap := h' }) ∧
   ∀ i j (C : Bool → Shared → Prop), i < vs.length → j < vs.length → C (lt i j) { s with heap := h' } → wpAny (model prog w) A.in1.in1 (keyLt' κ (vs.getD i Value.none) (vs.getD j Value.none)) C (fun _ _ => False) { s with heap := h' })
  (h : ∀ (D : Addr) (h' : Heap) (p : Array Nat) (c : Nat), s.heap.objs.size ≤ D → (∀ b o, s.heap.get? b = some o → h'.get? b = some o) → h'.get? D = some (seqObj "list" (Ej vs p).toArray c) → PR vs.length p → Srt lt p vs.length → Q (.ref D) { s with heap := h' }) :
  wpAny (model prog w) A (call (.builtin "sorted") [.ref l]) Q E s := by
 refine Calls.call_function_entry kind_sorted plain_sorted entry_sorted (args_sorted1 _) ?_
 unfold Builtin.«sorted»
 refine wpAny_bind (m := checkCount "sorted" 1 1 _) (wpAny_pure ?_)
 refine wpAny_bind (collect_list hl ?_ (by rw [sizeLine_eq]; omega))
 refine wpAny_bind (wpAny_newList ?_ (by rw [sizeLine_eq]; omega))
 have hsz : ((s.heap.push (seqObj "list" #[] 0)).update s.heap.objs.size (Obj.mapSeq (· ++ vs.toArray))).objs.size = s.heap.objs.size + 1 := by
  rw [Heap.size_update, size_push']
 have hoL : (((s.heap.push (seqObj "list" #[] 0)).update s.heap.objs.size (Obj.mapSeq (· ++ vs.toArray))).push (seqObj "list" vs.toArray 0)).get? (s.heap.objs.size + 1) = some (seqObj "list" vs.toArray 0) := by
  rw [← hsz]; exact Heap.get?_push_size _ rfl
 have keep : ∀ b o, s.heap.get? b = some o → (((s.heap.push (seqObj "list" #[] 0)).update s.heap.objs.size (Obj.mapSeq (· ++ vs.toArray))).push (seqObj "list" vs.toArray 0)).get? b = some o := fun b o q => by
  have hlt : b < s.heap.objs.size := Heap.lt_size q
  rw [Heap.get?_push_ne _ _ _ (by rw [hsz]; exact Nat.ne_of_lt (Nat.lt_succ_of_lt hlt)), Heap.get?_update_ne _ _ _ _ (Nat.ne_of_lt hlt), Heap.get?_push_ne _ _ _ (Nat.ne_of_lt hlt)]
  exact q
 show wpAny _ _ _ _ _ { s with heap := ((s.heap.push (seqObj "list" #[] 0)).update s.heap.objs.size (Obj.mapSeq (· ++ vs.toArray))).push (seqObj "list" vs.toArray 0) }
 rw [hsz]
 have ne : ∀ b o, s.heap.get? b = some o → b ≠ s.heap.objs.size + 1 := fun b o q => Nat.ne_of_lt (Nat.lt_succ_of_lt (Heap.lt_size q))
 refine wpAny_bind (wpAny_holding (wpAny_call_entry slot_list_sort ⟨_, hoL, rfl⟩ entry_list_sort ?body (args_list_sort _)))
 case body =>
  refine Sz (s := { s with heap := ((s.heap.push (seqObj "list" #[] 0)).update s.heap.objs.size (Obj.mapSeq (· ++ vs.toArray))).push (seqObj "list" vs.toArray 0) }) hoL S h64
   (fun h2 h' k => hc h2 h' fun b o q => k b o (ne b o q) (keep b o q)) fun h' p c k hat hp hs => ?_
  exact ⟨_, rfl, wpAny_pure ⟨_, rfl, h _ h' p c (Nat.le_succ _) (fun b o q => k b o (ne b o q) (keep b o q)) hat hp hs⟩⟩
end
theorem OY : ∀ {a b : List Int}, HT.lexLt a b = true → HT.lexLt b a = false
 | [], [], h => by cases h
 | [], _ :: _, _ => rfl
 | _ :: _, [], h => by cases h
 | x :: r, y :: t, h => by
  rw [HT.lexLt_cons] at h ⊢
  by_cases e : x = y
  ·rw [if_pos e] at h; rw [if_pos e.symm]; exact OY h
  ·rw [if_neg e] at h; rw [if_neg (Ne.symm e)]
   have := of_decide_eq_true h
   exact decide_eq_false (by omega)
theorem NJ : ∀ {a b c : List Int}, HT.lexLt a b = true → HT.lexLt b c = true → HT.lexLt a c = true
 | [], _, [], _, h => by rename_i b _; cases b <;> cases h
 | [], _, _ :: _, _, _ => rfl
 | _ :: _, [], _, h, _ => by cases h
 | _ :: _, _ :: _, [], _, h => by cases h
 | x :: r, y :: t, z :: u, h1, h2 => by
  rw [HT.lexLt_cons] at h1 h2 ⊢
  by_cases e1 : x = y
  ·rw [if_pos e1] at h1
   by_cases e2 : y = z
   ·rw [if_pos e2] at h2; rw [if_pos (e1.trans e2)]; exact NJ h1 h2
   ·rw [if_neg e2] at h2; rw [if_neg (by omega), e1]; exact h2
  ·rw [if_neg e1] at h1
   by_cases e2 : y = z
   ·rw [if_neg (by omega), ← e2]; exact h1
   ·rw [if_neg e2] at h2
    have d1 := of_decide_eq_true h1
    have d2 := of_decide_eq_true h2
    rw [if_neg (by omega)]
    exact decide_eq_true (by omega)
theorem Qr : ∀ {a b : List Int}, a ≠ b → HT.lexLt a b = true ∨ HT.lexLt b a = true
 | [], [], h => absurd rfl h
 | [], _ :: _, _ => .inl rfl
 | _ :: _, [], _ => .inr rfl
 | x :: r, y :: t, h => by
  rw [HT.lexLt_cons, HT.lexLt_cons]
  by_cases e : x = y
  ·rw [if_pos e, if_pos e.symm]
   exact Qr fun z => h (by rw [e, z])
  ·rw [if_neg e, if_neg (Ne.symm e)]
   rcases (by omega : x < y ∨ y < x) with z | z
   ·exact .inl (decide_eq_true z)
   ·exact .inr (decide_eq_true z)
theorem UN {ts : List (List Int)} (h : ts.Nodup) : STO ts.length (fun i j => HT.lexLt (ts.getD i []) (ts.getD j [])) where
 tri := fun i j hi hj hij => Qr fun z => hij ((List.getElem_inj h).mp (by simpa [List.getD_eq_getElem?_getD, hi, hj] using z))
 asym := fun _ _ => OY
 trans := fun _ _ _ => NJ
section
variable {prog : Program} {w : World} {A : Around} {s : Shared}
theorem KZ {Q : Bool → Shared → Prop} : ∀ {t1 t2 : List Int} {us ws : List Value} (i : Nat) (fin : Bool), Au (t1.map V.int) us → Au (t2.map V.int) ws → fin = decide (t1.length < t2.length) → Q (HT.lexLt t1 t2) s →
  KatLex prog w A true fin Q (us.zip ws) i s
 | [], [], us, ws, i, fin, r1, r2, hf, q => by
  cases r1; cases r2
  rw [hf]; exact q
 | [], _ :: _, us, ws, i, fin, r1, r2, hf, q => by
  cases r1
  rw [hf]; exact q
 | x :: t1, [], us, ws, i, fin, r1, r2, hf, q => by
  cases r2
  have e : us.zip ([] : List Value) = [] := by cases us <;> rfl
  rw [e, hf]; exact q
 | x :: t1, y :: t2, us, ws, i, fin, r1, r2, hf, q => by
  cases r1 with
  | cons ra rb =>
   cases r2 with
   | cons rc rd =>
    obtain ⟨k1, rfl⟩ := ra
    obtain ⟨k2, rfl⟩ := rc
    refine kat_cons (wpAny_eqBool_int ?_)
    rw [HT.lexLt_cons] at q
    by_cases e : x = y
    ·rw [if_pos e] at q
     have e2 : (x == y) = true := by simpa using e
     rw [e2]
     refine kat_yes (KZ (i + 1) fin rb rd ?_ q)
     rw [hf]; simp
    ·rw [if_neg e] at q
     have e2 : (x == y) = false := by simpa using e
     rw [e2]
     refine kat_no ?_
     cases i with
     | zero => exact oneLt_int q
     | succ i => exact kat_one _ _ (lt_int (show W.BoolBack Q (.bool (decide (x < y))) s from q))
end
section
variable {X : Cx}
theorem M9 : ∀ {zs : List (Addr × List Int)} {us : List Value}, Au (zs.map fun z => V.ref z.1) us → us = zs.map fun z => Value.ref z.1
 | [], _, r => by cases r; rfl
 | z :: zs, _, r => by
  cases r with
  | cons ra rb =>
   cases ra
   rw [M9 rb]; rfl
theorem PY {h : Heap} {K : PySem.W.Frag} {M : Model} : ∀ {zs : List (Addr × List Int)}, (∀ z ∈ zs, z.2 ≠ [] ∧ ∃ its : List Value, Au (z.2.map V.int) its ∧ IsTup h z.1 its.toArray) →
  ∃ fs : List Value, KatTups h (zs.map fun z => Value.ref z.1) fs ∧ fs.length = zs.length ∧ ∀ v ∈ fs, ∃ i t, v = Value.int i t
 | [], _ => ⟨[], .nil, rfl, fun _ hv => absurd hv (by simp)⟩
 | z :: zs, hz => by
  obtain ⟨fs, h1, h2, h3⟩ := PY (h := h) (K := K) (M := M) (zs := zs) fun y hy => hz y (List.mem_cons_of_mem _ hy)
  obtain ⟨hne, its, rv, o, ho, hc, n, hd⟩ := hz z List.mem_cons_self
  obtain ⟨a, t⟩ := z
  cases t with
  | nil => exact absurd rfl hne
  | cons x t =>
   cases rv with
   | cons ra rb =>
    obtain ⟨tk, rfl⟩ := ra
    refine ⟨.int x tk :: fs, KatTups.cons ho hc hd (by simp) h1, by rw [List.length_cons, List.length_cons, h2], fun v hv => ?_⟩
    rcases List.mem_cons.mp hv with rfl | hv
    ·exact ⟨x, tk, rfl⟩
    ·exact h3 v hv
def E6 (K : PySem.W.Frag) : List V → Hp → VK → Prop := fun xs H Q => ∃ l, xs = [.ref l] ∧ ∃ zs : List (Addr × List Int), SqL K H l (zs.map fun z => V.ref z.1) ∧ (∀ z ∈ zs, z.2 ≠ [] ∧ SqT K H z.1 (z.2.map V.int)) ∧ (zs.map (·.2)).Nodup ∧ zs.length < 64 ∧
 ∀ (D : Addr) (H' : Hp) (zs' : List (Addr × List Int)), H D = none → AL H H' → H' D = some (.lst (zs'.map fun z => V.ref z.1)) → zs'.Perm zs → zs'.Pairwise (fun a b => HT.lexLt a.2 b.2 = true) → Q (.ref D) H'
theorem O5 {zs : List (Addr × List Int)} {i : Nat} (hi : i < zs.length) : (zs.map fun z => Value.ref z.1).getD i Value.none = Value.ref (zs[i]).1 := by
 rw [List.getD_eq_getElem?_getD, List.getElem?_map, List.getElem?_eq_getElem hi]; rfl
def EH {α : Type} (d : α) (xs : List α) (p : Array Nat) : List α := p.toList.map fun i => xs.getD i d
theorem SE {α : Type} (d : α) (xs : List α) {p : Array Nat} (hp : PR xs.length p) : (EH d xs p).Perm xs := by
 have h1 : p.toList.Perm (List.range xs.length) := by simpa using Array.perm_iff_toList_perm.mp hp.pm
 have h2 := h1.map fun i => xs.getD i d
 have h3 : ((List.range xs.length).map fun i => xs.getD i d) = xs := by
  refine List.ext_getElem (by simp) fun i h1 h2 => ?_
  simp [List.getD_eq_getElem?_getD]
  rw [List.getElem?_eq_getElem h2]; rfl
 rw [h3] at h2
 exact h2
theorem SN {α β : Type} (d : α) (e : β) (f : α → β) (xs : List α) {p : Array Nat} (hp : PR xs.length p) : EH e (xs.map f) p = (EH d xs p).map f := by
 unfold EH
 rw [List.map_map]
 refine List.map_congr_left fun i hi => ?_
 have hi' : i < xs.length := by
  have := (hp.pm.mem_iff).mp (Array.mem_toList_iff.mp hi)
  simpa using this
 show (xs.map f).getD i e = f (xs.getD i d)
 rw [List.getD_eq_getElem?_getD, List.getD_eq_getElem?_getD, List.getElem?_map, List.getElem?_eq_getElem hi']; rfl
theorem Qz {α : Type} (d : α) (xs : List α) {p : Array Nat} {k : Nat} (hk : k < (EH d xs p).length) : (EH d xs p)[k] = xs.getD (at0 p k) d := by
 have hk' : k < p.size := by simpa [EH] using hk
 have e : (EH d xs p)[k]? = some (xs.getD (at0 p k) d) := by
  unfold EH at0
  rw [List.getElem?_map, Array.getElem?_toList, Array.getD_eq_getD_getElem?, Array.getElem?_eq_getElem hk']; rfl
 rw [List.getElem?_eq_getElem hk] at e
 exact Option.some.inj e
theorem Nu : CA X (.builtin "sorted") (E6 X.K) := by
 intro pins s σ H xs us Q I r h
 obtain ⟨l, rfl, zs, hl, ht, nd, h64, q⟩ := h
 obtain ⟨u, rfl, ru⟩ := vals1 r
 cases ru
 obtain ⟨its, rv, pl, hz⟩ := I.list hl
 have ei := M9 rv
 subst ei
 have hlen : (zs.map fun z => Value.ref z.1).length = zs.length := List.length_map _
 have S : STO (zs.map fun z => Value.ref z.1).length (fun i j => HT.lexLt ((zs.map (·.2)).getD i []) ((zs.map (·.2)).getD j [])) := by
  rw [hlen]
  have := UN nd
  rw [List.length_map] at this
  exact this
 refine RN pl.isList S (by rw [hlen]; exact h64) (fun h2 h' kp => ?_) fun D h' p c hD kp hat hp hs => ?_
 ·have tups : ∀ z ∈ zs, z.2 ≠ [] ∧ ∃ its : List Value, Au (z.2.map V.int) its ∧ IsTup h' z.1 its.toArray := fun z hz => by
   obtain ⟨n1, n2⟩ := ht z hz
   obtain ⟨its, r1, ⟨o, ho, hc⟩, _⟩ := I.tuple n2
   exact ⟨n1, its, r1, o, kp _ _ ho, hc⟩
  obtain ⟨fs, t1, t2, t3⟩ := PY (K := X.K) (M := model X.prog X.w) tups
  refine ⟨tuples' (Value.type "int" != Value.type "tuple"), fun R hR => ?_, fun i j C hi hj hC => ?_⟩
  ·refine kat_kind t1 (by rw [t2]; rw [hlen] at h2; omega) (fun v hv => ?_) (by decide) hR
   obtain ⟨i, t, rfl⟩ := t3 v hv
   exact .of_pure rfl
  ·rw [hlen] at hi hj
   rw [O5 hi, O5 hj]
   obtain ⟨_, i1, r1, o1, ho1, _, n1, hd1⟩ := tups zs[i] (List.getElem_mem hi)
   obtain ⟨_, i2, r2, o2, ho2, _, n2, hd2⟩ := tups zs[j] (List.getElem_mem hj)
   have eb : (Value.type "int" != Value.type "tuple") = true := by decide
   rw [eb]
   have l1 := r1.length
   have l2 := r2.length
   rw [List.length_map] at l1 l2
   refine kat_lt ho1 hd1 ho2 hd2 ?_
   refine KZ 0 _ r1 r2 ?_ ?_
   ·simp [l1, l2]
   ·have g1 : (zs.map (·.2)).getD i [] = zs[i].2 := by rw [List.getD_eq_getElem?_getD, List.getElem?_map, List.getElem?_eq_getElem hi]; rfl
    have g2 : (zs.map (·.2)).getD j [] = zs[j].2 := by rw [List.getD_eq_getElem?_getD, List.getElem?_map, List.getElem?_eq_getElem hj]; rfl
    rw [g1, g2] at hC
    exact hC
 ·rw [hlen] at hp hs
  have hfr : H D = none := I.hok.fresh hD
  have eo : Ej (zs.map fun z => Value.ref z.1) p = (EH ((0 : Addr), ([] : List Int)) zs p).map fun z => Value.ref z.1 := SN (0, []) Value.none (fun z : Addr × List Int => Value.ref z.1) zs hp
  have ep := SE ((0 : Addr), ([] : List Int)) zs hp
  have rel : ∀ ys : List (Addr × List Int), Au (ys.map fun z => V.ref z.1) (ys.map fun z => Value.ref z.1) := fun ys => by
   induction ys with
   | nil => exact .nil
   | cons y ys ih => exact .cons rfl ih
  have I2 : Inv X pins σ (upd H D (.lst ((EH ((0 : Addr), ([] : List Int)) zs p).map fun z => V.ref z.1))) { s with heap := h' } := by
   refine I.laid (t' := s.toks) kp hD ⟨by rw [List.length_map, ep.length_eq, PySem.sizeLine_eq]; omega, _, c, rel _, ?_⟩
   rw [hat, eo]
  refine ⟨.ref D, _, I2, rfl, q D _ _ hfr (BD hfr) AO ep ?_⟩
  refine List.pairwise_iff_getElem.mpr fun i j hi hj hij => ?_
  have hpl : (EH ((0 : Addr), ([] : List Int)) zs p).length = zs.length := ep.length_eq
  rw [Qz, Qz]
  have := Srt.all (n := zs.length) (by rw [hlen] at S; exact S) hs hij (by omega)
  have g : ∀ k, k < zs.length → (zs.map (·.2)).getD (at0 p k) [] = (zs.getD (at0 p k) (0, [])).2 := fun k hk => by
   have := hp.bd hk
   rw [List.getD_eq_getElem?_getD, List.getD_eq_getElem?_getD, List.getElem?_map, List.getElem?_eq_getElem this]; rfl
  rw [g i (by omega), g j (by omega)] at this
  exact this
end
theorem DI : bootBuiltins "sorted" = some (.builtin "sorted") := by decide +kernel
section
variable {X : Cx} {pos : Pos}
def FA : TE := fun _ H Q => ∀ p H', H p = none → AL H H' → H' p = some (.dK []) → Q (.ref p) H'
theorem Oe : PE X (.Dict [] [] pos) FA := fun pins s σ H Q I h => Td pins s σ H Q I fun p hp => h p _ hp (BD hp) AO
end
section
variable {X : Cx} {o e : Expr} {to te : TE} {pos : Pos}
theorem PE.weak {e : Expr} {t t' : TE} (h : PE X e t) (m : ∀ σ H Q, t' σ H Q → t σ H Q) : PE X e t' := fun pins s σ H Q I q => h pins s σ H Q I (m σ H Q q)
def DQ (to te : TE) : TE := fun σ H Q => to σ H fun x H1 => ∃ l, x = .ref l ∧ ∃ xs, H1 l = some (.lst xs) ∧ te σ H1 fun y H2 => ∃ ys, H2 l = some (.lst ys) ∧ ys.length < sizeLine ∧ Q .non (upd H2 l (.lst (ys ++ [y])))
end
theorem Tg {H : Hp} {p l : Addr} {xs : List V} {o u : HO} (h : H p = some (.tup xs)) (hl : H l = some o) (hm : ∀ ys, o ≠ .tup ys) : L2.upd H l u p = some (.tup xs) := by
 rw [AK (Bv h hl (Ne.symm (hm _)))]; exact h
section
variable {X : Cx} {o e : Expr} {to te : TE} {pos apos cpos : Pos}
def tMono (t : TE) : TE := fun σ H Q => ∃ P : VK, t σ H P ∧ ∀ v H', P v H' → Q v H'
theorem PE.mono {t : TE} (h : PE X e t) : PE X e (tMono t) := fun pins s σ H Q I ⟨P, h1, h2⟩ =>
 thn (h pins s σ H P I h1) fun u s1 ⟨v, H1, I1, r1, q1⟩ => ⟨v, H1, I1, r1, h2 v H1 q1⟩
theorem DN (ho : PE X o to) (he : PE X e te)
  (hbase : attributeBase o "append" X.env (eval o X.env) = eval o X.env := by rfl)
  (hfew : ((backTo cpos (starEach [e] X.env)).all (fun x => !x.1) && (backToKw cpos (keywordEach [] X.env)).all (fun x => x.1.isSome)
   && decide ([e].length + ([] : List Keyword).length + (if ([] : List Keyword).isEmpty then 0 else 1) < 30)) = true := by rfl)
  (hline : (apos.endLine == cpos.line) = true := by rfl) (hs : starEach [e] X.env = (false, eval e X.env) :: starEach [] X.env := by rfl) (hplain : (backTo cpos (starEach [] X.env)).any (·.1) = false := by rfl) :
  PE X (.Call (.Attribute o "append" apos) [e] [] cpos) (DQ to te) :=
 PE.weak (Uh PySem.F.plainAttrs_list PySem.F.slot_list_append PySem.F.type_list_append NG ho.mono (AA he.mono AD hs) hbase hfew hline hs hplain) fun σ H Q h => by
  refine ⟨_, h, fun x H1 h1 => ?_⟩
  obtain ⟨l, rfl, xs, e1, h1⟩ := h1
  refine ⟨.inl ⟨rfl, xs, SqL.of e1⟩, _, h1, fun y H2 h2 => ?_⟩
  obtain ⟨ys, e2, hz, q⟩ := h2
  exact ⟨l, ys, y, rfl, rfl, e2, hz, q⟩
end
section
variable {X : Cx} {pos : Pos}
def Nl (i j k : Nat) (ta : TA) : TS := fun D σ H => ta σ H fun vs H1 => ∃ v w u, vs = [v, w, u] ∧ D.nx (((σ.set i (some v)).set j (some w)).set k (some u)) H1
end
section
variable {X : Cx}
def OA (K : PySem.W.Frag) : R2 := fun x y H Q => ∃ a b, x = .ref a ∧ y = .ref b ∧ ∃ ns : List Int, SqT K H a (ns.map V.int) ∧ ∃ ms : List Int, SqT K H b (ms.map V.int) ∧ Q (.bl (decide (ns = ms))) H
def OB (K : PySem.W.Frag) : R2 := fun x y H Q => ∃ a b, x = .ref a ∧ y = .ref b ∧ ∃ ns : List Int, SqT K H a (ns.map V.int) ∧ ∃ ms : List Int, SqT K H b (ms.map V.int) ∧ Q (.bl (!decide (ns = ms))) H
def Jo (K : PySem.W.Frag) : R2 := fun x y H Q => ∃ a b, x = .ref a ∧ y = .ref b ∧ ∃ xs, SqL K H a xs ∧ SqL K H b [] ∧ Q (.bl (decide (xs = []))) H
theorem Fb {K : PySem.W.Frag} (h : X.K = K) : IxR X (Lm K) := h ▸ AT
def Mb (K : PySem.W.Frag) : V → Option Int → Option Int → Hp → VK → Prop := fun x lo hi H Q => ∃ a, x = .ref a ∧ ∃ xs, SqL K H a xs ∧ ∀ p H', H p = none → AL H H' → H' p = some (.lst (Mc xs lo hi)) → Q (.ref p) H'
theorem Jm : SlR X (Mb X.K) := fun pins s σ H x v vl vu lo hi sl Q I rx hs pl pu ⟨a, e, xs, h, q⟩ => Tp pins s σ H x v vl vu lo hi sl Q I rx hs pl pu ⟨a, xs, e, h, fun p hp => q p _ hp (BD hp) AO⟩
theorem NZ {xs : List V} {i : Nat} : Mc xs (some (i : Int)) none = xs.drop i := by
 unfold Mc
 rw [HT.sIx_nat, HT.sIx_none]
 by_cases h : i ≤ xs.length
 ·rw [Nat.min_eq_left h, List.take_of_length_le (by rw [List.length_drop]; omega)]
 ·rw [Nat.min_eq_right (by omega), Nat.sub_self, List.take_zero, List.drop_eq_nil_of_le (by omega)]
end
end L2
set_option Elab.async false
set_option linter.all false
set_option maxRecDepth 100000
set_option maxHeartbeats 4000000
namespace L2
open PySem PySem.Spec PyProof.Rows
section
variable {X : Cx} {pins : List (Addr × Obj)} {σ : St} {H : Hp} {s : Shared} {h' : Heap}
theorem Inv.turnedL {t' : Nat} {its : List Addr} (I : Inv X pins σ H s) (k : ∀ b o, b ∉ its → s.heap.get? b = some o → h'.get? b = some o) (hf : ∀ b ∈ its, Ko X pins H b) : Inv X pins σ H { s with heap := h', toks := t' } := by
 have nit : ∀ b u, H b = some u → b ∉ its := fun b u e z => by rw [(hf b z).1] at e; cases e
 refine I.step (g' := s.gens) (d' := s.drawn) (ch := its) (fun b hb => ?_) (fun b o _ _ hc e _ => k b o hc e) (fun b o _ _ hc e _ => ⟨o.slots, k b o hc e⟩) (fun _ _ _ _ n => n)
  (fun b o hc e => ⟨o, k b o hc e⟩) (fun _ _ e => e) (fun _ _ _ e => e) (fun b ps e => ⟨#[], by rw [e]; simp⟩) (fun m hm => ?_) (fun b u e => ?_) I.bare
 ·obtain ⟨f0, f1, f2, f3, f4, f5⟩ := hf b hb
  exact ⟨f3, f1, f4, f5⟩
 ·obtain ⟨o, es, ep, ho, r⟩ := hm
  exact ⟨o, es, ep, k _ o (fun z => (hf _ z).2.1 rfl) ho, r⟩
 ·refine (I.hok b u e).stay (fun c v hc q => k c v ?_ q) (fun _ q => q) fun _ _ q => q
  rcases hc with z | z
  ·rw [z]; exact nit b u e
  ·exact nit c _ z
end
def Ite (K : PySem.W.Frag) (a : Addr) : It :=
 ⟨fun i H => ∃ xs x, SqL K H a xs ∧ xs[i]? = some x, fun i H x H' => ∃ p y, x = .ref p ∧ H p = none ∧ H' = upd H p (.tup [.int (i : Int), y]) ∧ ∀ xs, SqL K H a xs → xs[i]? = some y, fun i H => ∃ xs, SqL K H a xs ∧ xs.length ≤ i⟩
theorem R7 {P : Program} {w : World} {K : PySem.W.Frag} {elts : List Expr} {k : Nat} {tp : Pos} (a e it : Addr) (hei : e ≠ it) :
  RW P w K (.Tuple elts k tp) (Ite K a) [e, it] e (fun i h => (∃ old, IsEnum h e it (i : Int) old) ∧ h.IsListIter it a i) where
 mem := by simp
 obj := fun i h st b hb => by
  obtain ⟨⟨old, he⟩, hit⟩ := st
  rcases List.mem_cons.mp hb with z | z
  ·subst z
   exact ⟨_, he, fun v z => by
    have z' : Data.fields _ = Data.cell v := z
    cases z'⟩
  ·have z := List.mem_singleton.mp z
   subst z
   obtain ⟨o, e, c, d⟩ := hit
   exact ⟨o, e, fun v z => by rw [d] at z; cases z⟩
 keep := fun i h h' st k => ⟨⟨_, k e (by simp) _ st.1.choose_spec⟩, st.2.at fun o x => k it (by simp) o x⟩
 item := by
  intro X hP hw hK hc i pins s σ H E I hf st hg
  subst hP hw hK
  obtain ⟨xs, x, hq, hx⟩ := hg
  obtain ⟨its, rv, p, hz⟩ := I.list hq
  obtain ⟨u, hu, ru⟩ := rv.get hx
  obtain ⟨⟨old, he⟩, hit⟩ := st
  have helt : e < s.heap.objs.size := Heap.lt_size he
  have hilt : it < s.heap.objs.size := by obtain ⟨_, x, _⟩ := hit; exact Heap.lt_size x
  refine wpAny_pyNext_enum_item he hit p.isList (x := u) (by simpa using hu) hei fun h' ho hit' hT hsz hk => ?_
  refine ⟨_, rfl, wpAny_letOwnedTupleGo_enum (s := { s with heap := h', toks := s.toks + 1 }) ho fun h2 he2 hs2 => ?_⟩
  have I1 : Inv X pins σ (upd H s.heap.objs.size (.tup [.int (i : Int), x])) { s with heap := s.heap.push { cls := .type "tuple", data := .seq #[.int (i : Int) s.toks, u] }, toks := s.toks + 1 } :=
   I.laid (fun b o e => Heap.get?_push_of_some _ e) (Nat.le_refl _) ⟨by rw [PySem.sizeLine_eq]; show 2 ≤ _; omega, [.int (i : Int) s.toks, u], .cons ⟨_, rfl⟩ (.cons ru .nil), IsTup.new s.heap _⟩
  have hfr : ∀ b ∈ [e, it], upd H s.heap.objs.size (.tup [.int (i : Int), x]) b = none := fun b hb => by
   have hlt : b < s.heap.objs.size := by
    rcases List.mem_cons.mp hb with z | z
    ·rw [z]; exact helt
    ·rw [List.mem_singleton.mp z]; exact hilt
   rw [AK (Nat.ne_of_lt hlt)]
   exact (hf b hb).1
  refine ⟨.ref s.heap.objs.size, upd H s.heap.objs.size (.tup [.int (i : Int), x]), ?_, rfl, ⟨_, x, rfl, I.fresh, rfl, fun ys hy => by rw [I.list_inj hy hq]; exact hx⟩, ⟨⟨_, by simpa using he2⟩, hit'.at fun o y => (hs2.2 it (Ne.symm hei)).trans y⟩, hfr⟩
  refine (show Inv X pins σ (upd H s.heap.objs.size (.tup [.int (i : Int), x])) { ({ s with heap := s.heap.push { cls := .type "tuple", data := .seq #[.int (i : Int) s.toks, u] }, toks := s.toks + 1 } : Shared) with heap := h2, toks := s.toks + 1 } from ?_)
  refine Inv.turnedL (its := [e, it]) I1 (fun b o hb eb => ?_) fun b hb => ⟨hfr b hb, (hf b hb).2⟩
  have hbe : b ≠ e := fun z => hb (by simp [z])
  have hbi : b ≠ it := fun z => hb (by simp [z])
  refine (hs2.2 b hbe).trans ?_
  by_cases hbs : b = s.heap.objs.size
  ·subst hbs
   have : (s.heap.push { cls := .type "tuple", data := .seq #[.int (i : Int) s.toks, u] }).get? s.heap.objs.size = some { cls := .type "tuple", data := .seq #[.int (i : Int) s.toks, u] } := Heap.get?_push_size _ rfl
   have eb := this.symm.trans eb
   rw [← eb]
   exact hT
  ·exact hk b o hbe hbi ((Heap.get?_push_ne _ _ _ hbs).symm.trans eb)
 done := by
  intro X hP hw hK hc i pins s σ H E I hf st hg
  subst hP hw hK
  obtain ⟨xs, hq, hx⟩ := hg
  obtain ⟨its, rv, p, hz⟩ := I.list hq
  have hl := rv.length
  obtain ⟨⟨old, he⟩, hit⟩ := st
  refine wpAny_pyNext_enum_end (I.ok.hd hc) he hit p.isList (Array.getElem?_eq_none (by simp; omega)) fun h' eb => ⟨rfl, ?_⟩
  obtain ⟨f0, f1, f2, f3, f4, f5⟩ := hf it (by simp)
  exact I.turned (t' := s.toks) (fun b o hb e => eb b o hb e) f0 f1 f3 f4 f5
 self := fun _ _ _ _ _ st h => by
  obtain ⟨⟨old, he⟩, _⟩ := st
  exact wpAny_pyIter_enum he h
section
variable {X : Cx}
def Hg (K : PySem.W.Frag) (ta : TA) : TI := fun σ H R => ta σ H fun vs H1 => ∃ a, vs = [.ref a] ∧ (∃ xs, SqL K H1 a xs) ∧ R (Ite K a) H1
theorem Qn {l : Expr} {ta : TA} {p pos tp : Pos} {elts : List Expr} {k : Nat} (hg : Gl X "enumerate") (hm : X.mg "enumerate" = none) (ha : PA X [l] ta) (hs : starEach [l] X.env = [(false, eval l X.env)] := by rfl) :
  PI X (.Tuple elts k tp) (.Call (.Name "enumerate" p) [l] [] pos) (Hg X.K ta) := by
 intro pins s σ H R I h
 refine Call_ (IX I hg hm boot_enumerate (PyProof.Rows.callWith_type1 (thn (ha pos pins s σ H _ I h) fun us s1 ⟨vs, H1, I1, r1, q1⟩ => ?_) hs rfl))
 obtain ⟨a, e, ⟨xs, hq⟩, q⟩ := q1
 subst e
 cases r1 with
 | cons r rr =>
  cases rr
  cases r
  obtain ⟨its, rv, pl, hz⟩ := I1.list hq
  refine call_enumerate_list pl.isList fun h' he hit hsz hk => ?_
  have I2 : Inv X pins σ H1 { s1 with heap := h' } := I1.kept (t' := s1.toks) hk
  refine wpAny_pyIter_enum he ?_
  refine ⟨_, [s1.heap.objs.size + 1, s1.heap.objs.size], _, _, H1, rfl, I2, R7 a _ _ (Nat.succ_ne_self _), ⟨⟨_, by simpa using he⟩, hit⟩, fun b hb => ?_, q⟩
  have hb' : s1.heap.objs.size ≤ b := by
   rcases List.mem_cons.mp hb with z | z
   ·rw [z]; exact Nat.le_succ _
   ·rw [List.mem_singleton.mp z]; exact Nat.le_refl _
  exact I1.fpOk hb' (I1.hok.fresh hb')
theorem WI : bootBuiltins "all" = some (.builtin "all") := by decide +kernel
def Mu (K : PySem.W.Frag) : List V → Hp → VK → Prop := fun xs H Q => ∃ a, xs = [.ref a] ∧ ∃ ys : List Bool, SqL K H a (ys.map V.bl) ∧ Q (.bl (ys.all id)) H
theorem S8 (hc : X.calm = true) : CA X (.builtin "all") (Mu X.K) := by
 intro pins s σ H xs us Q I r h
 obtain ⟨a, rfl, ys, hq, q⟩ := h
 obtain ⟨u, rfl, rx⟩ := vals1 r
 cases rx
 obtain ⟨its, r', pl, hz⟩ := I.list hq
 have hlen := r'.length
 rw [List.length_map] at hlen
 have hlt : a < s.heap.objs.size := by obtain ⟨o, n, e, _⟩ := id pl; exact Heap.lt_size e
 refine call_all_walk (wpAny_pyIter_list pl.isList ?_)
 refine ⟨s.heap.objs.size, _, _, _, _, _, fun i => ys.getD i true, rfl, Walks.list (A := X.A.in1) (I.ok.hd hc) _ a (Nat.ne_of_lt hlt) its.toArray, ⟨⟨_, Heap.get?_push_size _ rfl, rfl, rfl⟩, pl.isList.at fun o e => Heap.get?_push_of_some _ e⟩, ?_, fun h' tk hk => ?_⟩
 ·intro i v s Q E hP hQ
  have hv : its[i]? = some v := by simpa using hP
  obtain ⟨hi, _⟩ := List.getElem?_eq_some_iff.mp hv
  obtain ⟨u, e1, e2⟩ := r'.get (i := i) (x := V.bl (ys.getD i true)) (by rw [List.getElem?_map, List.getElem?_eq_getElem (by omega), List.getD_eq_getElem?_getD, List.getElem?_eq_getElem (by omega)]; rfl)
  have e3 : v = u := Option.some.inj (hv.symm.trans e1)
  have e2 : u = Value.bool (ys.getD i true) := e2
  rw [e3, e2]
  exact wpAny_truthy_bool hQ
 ·have I2 : Inv X pins σ H { s with heap := h', toks := tk } := I.kept fun b o e => hk b o (fun z => by
   rw [List.mem_singleton.mp z] at e
   exact absurd (Heap.lt_size e) (Nat.lt_irrefl _)) (Heap.get?_push_of_some _ e)
  refine ⟨.bl (ys.all id), H, I2, ?_, q⟩
  show Value.bool _ = Value.bool _
  congr 1
  rw [show its.toArray.size = ys.length by simp [hlen], Bool.eq_iff_iff]
  simp only [List.all_eq_true, List.mem_range, id]
  constructor
  ·intro hh b hb
   obtain ⟨i, hi, rfl⟩ := List.getElem_of_mem hb
   have := hh i hi
   rwa [List.getD_eq_getElem?_getD, List.getElem?_eq_getElem hi] at this
  ·intro hh i hi
   rw [List.getD_eq_getElem?_getD, List.getElem?_eq_getElem hi]
   exact hh _ (List.getElem_mem hi)
end
theorem Oa {K : PySem.W.Frag} {a : Addr} {xs : List V} {g : TG} {tb : TS} {D : Ib} {σ : St} {H : Hp} (Pv : Nat → St → Hp → Prop) (h0 : Pv 0 σ H) (hl : ∀ i σ H, i ≤ xs.length → Pv i σ H → SqL K H a xs)
  (hs : ∀ i x σ H p H', xs[i]? = some x → Pv i σ H → H p = none → AL H H' → H' p = some (.tup [.int (i : Int), x]) → g (.ref p) σ H' fun σ2 H2 => tb { D with nx := Pv (i + 1), ct := Pv (i + 1), bk := D.nx } σ2 H2) (hd : ∀ σ H, Pv xs.length σ H → D.nx σ H) :
  ∃ W : Nat → Nat → St → Hp → Prop, (∃ m, W 0 m σ H) ∧ ∀ i m σ H, W i m σ H →
   ((Ite K a).stop i H ∧ D.nx σ H) ∨ ((Ite K a).go i H ∧ ∃ N : St → Hp → Prop, (∀ σ' H', N σ' H' → ∃ m', m' < m ∧ W (i + 1) m' σ' H') ∧ ∀ x H', (Ite K a).yld i H x H' → g x σ H' fun σ2 H2 => tb { D with nx := N, ct := N, bk := D.nx } σ2 H2) := by
 refine ⟨fun i m σ H => m = xs.length - i ∧ i ≤ xs.length ∧ Pv i σ H, ⟨xs.length, by simp, Nat.zero_le _, h0⟩, ?_⟩
 rintro i m σ H ⟨rfl, hi, p⟩
 have q := hl i σ H hi p
 by_cases hlt : i < xs.length
 ·refine .inr ⟨⟨xs, xs[i], q, by simp [hlt]⟩, Pv (i + 1), fun σ' H' p' => ⟨xs.length - (i + 1), by omega, rfl, hlt, p'⟩, fun x H' y => ?_⟩
  obtain ⟨pp, z, rfl, hn, rfl, y⟩ := y
  exact hs i z σ _ _ _ (y xs q) p hn (BD hn) AO
 ·have e : i = xs.length := by omega
  subst e
  exact .inl ⟨⟨xs, q, Nat.le_refl _⟩, hd σ H p⟩
end L2
set_option Elab.async false
set_option linter.all false
set_option maxRecDepth 100000
set_option maxHeartbeats 4000000
namespace TG
open PySem L2
theorem OV {d r : Int} (hd : 0 ≤ d) (hr : 0 < r) : Int.gcd r (d.fmod r) = Int.gcd d r := by
 rw [Int.fmod_eq_emod_of_nonneg d (Int.le_of_lt hr)]
 obtain ⟨n, rfl⟩ := Int.eq_ofNat_of_zero_le hd
 obtain ⟨m, rfl⟩ := Int.eq_ofNat_of_zero_le (Int.le_of_lt hr)
 show Nat.gcd m (((n % m : Nat) : Int)).natAbs = Nat.gcd n m
 rw [Int.natAbs_natCast, Nat.gcd_comm n m, Nat.gcd_rec m n, Nat.gcd_comm]
theorem RH {d r : Int} (hr : 0 < r) : 0 ≤ d.fmod r ∧ d.fmod r < r := ⟨Int.fmod_nonneg_of_pos d hr, Int.fmod_lt_of_pos d hr⟩
theorem Nn {d : Int} (hd : 0 ≤ d) : ((Int.gcd d 0 : Nat) : Int) = d := by
 rw [Int.gcd_zero_right]; omega
structure IU (t b x y : Int) : Prop where
 ex : ∃ g : Int, g ≠ 0 ∧ t = g * x ∧ b = g * y
 pos : 0 < y
 one : Int.gcd x y = 1
theorem IU.eq {t b x y : Int} (h : IU t b x y) : t * y = b * x := by
 obtain ⟨g, _, rfl, rfl⟩ := h.ex
 rw [Int.mul_assoc, Int.mul_assoc, Int.mul_comm x y]
theorem He {g x : Int} (hg : g ≠ 0) : x.natAbs ≤ (g * x).natAbs := by
 rw [Int.natAbs_mul]
 exact Nat.le_mul_of_pos_left _ (by omega)
theorem IU.absx {t b x y : Int} (h : IU t b x y) : x.natAbs ≤ t.natAbs := by
 obtain ⟨g, hg, rfl, rfl⟩ := h.ex
 exact He hg
theorem IU.absy {t b x y : Int} (h : IU t b x y) : y.natAbs ≤ b.natAbs := by
 obtain ⟨g, hg, rfl, rfl⟩ := h.ex
 exact He hg
theorem UE (t b : Int) : Int.gcd (if t < 0 then -t else t) (if b < 0 then -b else b) = Int.gcd t b := by
 split <;> split <;> simp [Int.gcd_neg, Int.neg_gcd]
theorem XU {t b : Int} (hb : b ≠ 0) {d : Int} (hd : d = if b < 0 then -((Int.gcd t b : Nat) : Int) else ((Int.gcd t b : Nat) : Int)) : IU t b (t.fdiv d) (b.fdiv d) ∧ d ≠ 0 := by
 have hg : 0 < Int.gcd t b := Int.gcd_pos_of_ne_zero_right t hb
 have hd0 : d ≠ 0 := by rw [hd]; split <;> omega
 have habs : d.natAbs = Int.gcd t b := by rw [hd]; split <;> omega
 have h1 : d ∣ t := by
  rw [← Int.natAbs_dvd, habs]; exact Int.gcd_dvd_left ..
 have h2 : d ∣ b := by
  rw [← Int.natAbs_dvd, habs]; exact Int.gcd_dvd_right ..
 obtain ⟨x, hx⟩ := h1
 obtain ⟨y, hy⟩ := h2
 have ex : t.fdiv d = x := by rw [hx, Int.mul_fdiv_cancel_left _ hd0]
 have ey : b.fdiv d = y := by rw [hy, Int.mul_fdiv_cancel_left _ hd0]
 rw [ex, ey]
 refine ⟨⟨⟨d, hd0, hx, hy⟩, ?_, ?_⟩, hd0⟩
 ·rcases Int.lt_trichotomy y 0 with h | h | h
  ·exfalso
   by_cases hbn : b < 0
   ·rw [if_pos hbn] at hd
    have : 0 < d * y := Int.mul_pos_of_neg_of_neg (by omega) h
    omega
   ·rw [if_neg hbn] at hd
    have : d * y < 0 := Int.mul_neg_of_pos_of_neg (by omega) h
    omega
  ·rw [h, Int.mul_zero] at hy; exact absurd hy hb
  ·exact h
 ·have e : Int.gcd t b = d.natAbs * Int.gcd x y := by
   conv => lhs; rw [hx, hy]
   exact Int.gcd_mul_left ..
  rw [habs] at e
  have e2 : Int.gcd t b * 1 = Int.gcd t b * Int.gcd x y := by rw [Nat.mul_one]; exact e
  exact (Nat.eq_of_mul_eq_mul_left hg e2).symm
theorem Oz (x y : Int) : Int.gcd (if x < 0 then -x else x) y = Int.gcd x y := by
 split <;> simp [Int.neg_gcd]
theorem Ts {t u x y f : Int} (hy : 0 < y) (hu : 0 < u) (E : t * y = u * x) : f * y ≤ x ↔ f * u ≤ t := by
 constructor
 ·intro h
  have h1 := Int.mul_le_mul_of_nonneg_left h (Int.le_of_lt hu)
  rw [← E] at h1
  have h2 : (f * u) * y ≤ t * y := by
   have e : (f * u) * y = u * (f * y) := by grind
   rw [e]; exact h1
  exact Int.le_of_mul_le_mul_right h2 hy
 ·intro h
  have h1 := Int.mul_le_mul_of_nonneg_right h (Int.le_of_lt hy)
  rw [E] at h1
  have h2 : u * (f * y) ≤ u * x := by
   have e : u * (f * y) = (f * u) * y := by grind
   rw [e]; exact h1
  exact Int.le_of_mul_le_mul_left h2 hu
theorem UO {t u x y f : Int} (hy : 0 < y) (hu : 0 < u) (E : t * y = u * x) : x ≤ f * y ↔ t ≤ f * u := by
 constructor
 ·intro h
  have h1 := Int.mul_le_mul_of_nonneg_left h (Int.le_of_lt hu)
  rw [← E] at h1
  have h2 : t * y ≤ (f * u) * y := by
   have e : (f * u) * y = u * (f * y) := by grind
   rw [e]; exact h1
  exact Int.le_of_mul_le_mul_right h2 hy
 ·intro h
  have h1 := Int.mul_le_mul_of_nonneg_right h (Int.le_of_lt hy)
  rw [E] at h1
  have h2 : u * x ≤ u * (f * y) := by
   have e : u * (f * y) = (f * u) * y := by grind
   rw [e]; exact h1
  exact Int.le_of_mul_le_mul_left h2 hu
structure G where
 p : Int
 f : Int
 h : Int
abbrev G.vs (g : G) : List V := [.int g.p, .int g.f, .int g.h]
structure OkG (g : G) : Prop where
 p0 : -1000 ≤ g.p
 p1 : g.p ≤ 1000
 f0 : -1000 ≤ g.f
 fh : g.f ≤ g.h
 h1 : g.h ≤ 1000
def Az (H : Hp) (as : List Addr) (gs : List G) : Prop := Paired (fun a g => H a = some (.tup (G.vs g))) as gs
theorem Az.same {H H' : Hp} {as : List Addr} {gs : List G} (h : Az H as gs) (s : AL H H') : Az H' as gs := by
 unfold Az at *
 induction h with
 | nil => exact .nil
 | cons e _ ih => exact .cons (s _ _ e) ih
theorem Az.upd {H : Hp} {l : Addr} {o u : HO} {as : List Addr} {gs : List G} (h : Az H as gs) (hl : H l = some o) (hm : ∀ ys, o ≠ .tup ys) : Az (L2.upd H l u) as gs := by
 unfold Az at *
 induction h with
 | nil => exact .nil
 | cons e _ ih => exact .cons (Tg e hl hm) ih
theorem Az.snoc {H : Hp} {as : List Addr} {gs : List G} {a : Addr} {g : G} (h : Az H as gs) (e : H a = some (.tup (G.vs g))) : Az H (as ++ [a]) (gs ++ [g]) := Paired.snoc h e
theorem Az.len {H : Hp} {as : List Addr} {gs : List G} (h : Az H as gs) : as.length = gs.length := Paired.length h
theorem BA {xs : List Int} {i : Int} (h0 : 0 ≤ i) (h1 : i < xs.length) : atI (xs.map V.int) i = some (V.int (xs.getD i.toNat 0)) := by
 obtain ⟨n, rfl⟩ := Int.eq_ofNat_of_zero_le h0
 have hn : n < xs.length := by omega
 refine N0 ?_
 rw [List.getElem?_map, List.getElem?_eq_getElem hn, Int.toNat_natCast, List.getD_eq_getElem?_getD, List.getElem?_eq_getElem hn]; rfl
theorem Hh {α : Type} [DecidableEq α] : ∀ {xs ys : List α}, xs.Nodup → (∀ x ∈ xs, x ∈ ys) → xs.length ≤ ys.length
 | [], _, _, _ => Nat.zero_le _
 | x :: xs, ys, hn, hs => by
  obtain ⟨h1, h2⟩ := List.nodup_cons.mp hn
  have hx := hs x List.mem_cons_self
  have ih := Hh (ys := ys.erase x) h2 fun y hy => (List.mem_erase_of_ne (fun (e : y = x) => h1 (by rw [← e]; exact hy))).mpr (hs y (List.mem_cons_of_mem _ hy))
  have := List.length_erase_of_mem hx
  have hp : 0 < ys.length := List.length_pos_of_mem hx
  rw [List.length_cons]
  omega
theorem PJ {near span o : Int} {used : List Int} (hk : (used.length : Int) < span) (h : ∀ t : Nat, t ≤ used.length → near + (o + t) % span ∈ used) : False := by
 have hnd : ((List.range (used.length + 1)).map fun t : Nat => near + (o + t) % span).Nodup := by
  refine List.pairwise_iff_getElem.mpr fun a b ha hb hab => ?_
  rw [List.length_map, List.length_range] at ha hb
  rw [List.getElem_map, List.getElem_map, List.getElem_range, List.getElem_range]
  intro e
  have e1 : (o + (a : Int)) % span = (o + (b : Int)) % span := by omega
  have e2 := Int.emod_emod_of_dvd (o + (b : Int)) (Int.dvd_refl span)
  have d : span ∣ (o + (b : Int)) - (o + (a : Int)) := Int.dvd_of_emod_eq_zero (Int.emod_eq_emod_iff_emod_sub_eq_zero.mp e1.symm)
  have e3 : (o + (b : Int)) - (o + (a : Int)) = (b : Int) - a := by omega
  rw [e3] at d
  have := Int.le_of_dvd (by omega) d
  omega
 have hl := Hh (ys := used) hnd fun x hx => by
  obtain ⟨t, ht, rfl⟩ := List.mem_map.mp hx
  exact h t (by have := List.mem_range.mp ht; omega)
 rw [List.length_map, List.length_range] at hl
 omega
def D0 (a b c : G) : Prop := a.h * (c.p - b.p) + c.h * (b.p - a.p) < b.f * (c.p - a.p)
def Fx (a b c : G) : Prop := b.h * (c.p - a.p) < a.f * (c.p - b.p) + c.f * (b.p - a.p)
instance (a b c : G) : Decidable (D0 a b c) := by unfold D0; exact inferInstance
instance (a b c : G) : Decidable (Fx a b c) := by unfold Fx; exact inferInstance
def K4 (a b c : G) : Prop := D0 a b c ∨ Fx a b c
instance (a b c : G) : Decidable (K4 a b c) := by unfold K4; exact inferInstance
theorem Az.zip {H : Hp} {as : List Addr} {gs : List G} (h : Az H as gs) : ∃ zs : List (Addr × List Int), as = zs.map (·.1) ∧ zs.map (·.2) = gs.map (fun g => [g.p, g.f, g.h]) ∧ ∀ z ∈ zs, z.2 ≠ [] ∧ H z.1 = some (.tup (z.2.map V.int)) := by
 unfold Az at h
 induction h with
 | nil => exact ⟨[], rfl, rfl, fun _ h => absurd h (by simp)⟩
 | @cons a g as gs e _ ih =>
  obtain ⟨zs, h1, h2, h3⟩ := ih
  refine ⟨(a, [g.p, g.f, g.h]) :: zs, by rw [h1]; rfl, by rw [List.map_cons, h2]; rfl, fun z hz => ?_⟩
  rcases List.mem_cons.mp hz with rfl | hz
  ·exact ⟨by simp, e⟩
  ·exact h3 z hz
theorem Az.of_zip {H : Hp} : ∀ {zs : List (Addr × List Int)} {gs : List G}, zs.map (·.2) = gs.map (fun g => [g.p, g.f, g.h]) → (∀ z ∈ zs, H z.1 = some (.tup (z.2.map V.int))) → Az H (zs.map (·.1)) gs
 | [], [], _, _ => .nil
 | [], _ :: _, e, _ => by cases e
 | _ :: _, [], e, _ => by cases e
 | z :: zs, g :: gs, e, h => by
  rw [List.map_cons, List.map_cons, List.cons.injEq] at e
  refine .cons ?_ (Az.of_zip e.2 fun y hy => h y (List.mem_cons_of_mem _ hy))
  have := h z List.mem_cons_self
  rw [e.1] at this
  exact this
def toG (t : List Int) : G := ⟨t.getD 0 0, t.getD 1 0, t.getD 2 0⟩
theorem Tn (gs : List G) : (gs.map fun g => [g.p, g.f, g.h]).map toG = gs := by
 rw [List.map_map]
 have : (toG ∘ fun g : G => [g.p, g.f, g.h]) = id := by funext g; rfl
 rw [this, List.map_id]
theorem lex_p {g g' : G} (hne : g.p ≠ g'.p) (h : HT.lexLt [g.p, g.f, g.h] [g'.p, g'.f, g'.h] = true) : g.p < g'.p := by
 rw [HT.lexLt_cons, if_neg hne] at h
 exact of_decide_eq_true h
def Asc (gs : List G) : Prop := gs.Pairwise fun a b => a.p < b.p
section
variable {X : Cx}
def E4 (K : PySem.W.Frag) : List V → Hp → VK → Prop := fun xs H Q => ∃ l, xs = [.ref l] ∧ ∃ (as : List Addr) (gs : List G), SqL K H l (as.map V.ref) ∧ Az H as gs ∧ (gs.map G.p).Nodup ∧ gs.length < 64 ∧
 ∀ (D : Addr) (H' : Hp) (as' : List Addr) (gs' : List G), H D = none → AL H H' → H' D = some (.lst (as'.map V.ref)) → Az H' as' gs' → gs'.Perm gs → Asc gs' → Q (.ref D) H'
theorem D4 : CA X (.builtin "sorted") (E4 X.K) := Nu.weak fun xs H Q ⟨l, e, as, gs, hl, ga, nd, h64, q⟩ => by
 obtain ⟨zs, h1, h2, h3⟩ := ga.zip
 have hlen : zs.length = gs.length := by
  have := congrArg List.length h2
  simpa using this
 refine ⟨l, e, zs, ?_, fun z hz => ⟨(h3 z hz).1, SqT.of (h3 z hz).2⟩, ?_, by omega, fun D H' zs' hD hs hat hp hsrt => ?_⟩
 ·rw [h1, List.map_map] at hl
  exact hl
 ·rw [h2]
  refine List.pairwise_map.mpr ((List.pairwise_map.mp nd).imp fun {a b} h z => h ?_)
  simp at z
  exact z.1
 ·have hm : (zs'.map (·.2)).Perm (gs.map fun g => [g.p, g.f, g.h]) := by rw [← h2]; exact hp.map _
  have hg : ((zs'.map (·.2)).map toG).Perm gs := by
   have := hm.map toG
   rw [Tn] at this
   exact this
  have hback : zs'.map (·.2) = ((zs'.map (·.2)).map toG).map fun g => [g.p, g.f, g.h] := by
   rw [List.map_map]
   conv => lhs; rw [← List.map_id (zs'.map (·.2))]
   refine List.map_congr_left fun t ht => ?_
   obtain ⟨g, _, rfl⟩ := List.mem_map.mp (hm.mem_iff.mp ht)
   rfl
  refine q D H' (zs'.map (·.1)) ((zs'.map (·.2)).map toG) hD hs ?_ ?_ hg ?_
  ·rw [hat, List.map_map]; rfl
  ·exact Az.of_zip hback fun z hz => hs.get (h3 z (hp.mem_iff.mp hz)).2
  ·have ndp : ((((zs'.map (·.2)).map toG)).map G.p).Nodup := ((hg.map G.p).nodup_iff).mpr nd
   have hsr : (((zs'.map (·.2)).map toG)).Pairwise fun a b => HT.lexLt [a.p, a.f, a.h] [b.p, b.f, b.h] = true := by
    have : ((((zs'.map (·.2)).map toG)).map fun g : G => [g.p, g.f, g.h]).Pairwise fun a b => HT.lexLt a b = true := by
     rw [← hback]
     exact List.pairwise_map.mpr hsrt
    exact List.pairwise_map.mp this
   have hne := List.pairwise_map.mp ndp
   exact (hsr.and hne).imp fun {a b} h => lex_p h.2 h.1
end
def IZ (sg : List G) (i j k : Nat) : Prop := i < j ∧ j < k ∧ ∃ a b c, sg[i]? = some a ∧ sg[j]? = some b ∧ sg[k]? = some c ∧ K4 a b c
def Jk (sg : List G) : Prop := ∀ i j k, ¬ IZ sg i j k
theorem Eh : ∀ {xs ys : List G}, Asc xs → Asc ys → xs.Perm ys → xs = ys
 | [], ys, _, _, h => (List.nil_perm.mp h).symm
 | x :: xs, [], _, _, h => absurd h (by intro z; have := z.length_eq; simp at this)
 | x :: xs, y :: ys, h1, h2, h => by
  obtain ⟨a1, a2⟩ := List.pairwise_cons.mp h1
  obtain ⟨b1, b2⟩ := List.pairwise_cons.mp h2
  have e : x = y := by
   have hx : x ∈ y :: ys := h.mem_iff.mp List.mem_cons_self
   have hy : y ∈ x :: xs := h.mem_iff.mpr List.mem_cons_self
   rcases List.mem_cons.mp hx with e | hx
   ·exact e
   ·rcases List.mem_cons.mp hy with e | hy
    ·exact e.symm
    ·have := a1 y hy
     have := b1 x hx
     omega
  subst e
  rw [Eh a2 b2 ((List.perm_cons x).mp h)]
theorem Az.get {H : Hp} {as : List Addr} {gs : List G} (h : Az H as gs) {i : Nat} {g : G} (hg : gs[i]? = some g) : ∃ a, as[i]? = some a ∧ H a = some (.tup (G.vs g)) := by
 unfold Az at h
 induction h generalizing i with
 | nil => simp at hg
 | cons e _ ih =>
  cases i with
  | zero => simp at hg; subst hg; exact ⟨_, rfl, e⟩
  | succ i => exact ih (by simpa using hg)
theorem DV {as : List Addr} {i : Nat} {a : Addr} (h : as[i]? = some a) : atI (as.map V.ref) (i : Int) = some (V.ref a) := N0 (by rw [List.getElem?_map, h]; rfl)
theorem IZ.lt {sg : List G} {i j k : Nat} (h : IZ sg i j k) : k < sg.length := by
 obtain ⟨_, _, a, b, c, _, _, h3, _⟩ := h
 exact (List.getElem?_eq_some_iff.mp h3).1
def Pas (a b c d pl f h : Int) : Prop := f * (b * d) ≤ a * d + pl * c * b ∧ a * d + pl * c * b ≤ h * (b * d)
instance (a b c d pl f h : Int) : Decidable (Pas a b c d pl f h) := by unfold Pas; exact inferInstance
structure Thr where
 a : Int
 b : Int
 c : Int
 d : Int
abbrev Thr.vs (t : Thr) : List V := [.int t.a, .int t.b, .int t.c, .int t.d]
abbrev Thr.pas (t : Thr) (g : G) : Prop := Pas t.a t.b t.c t.d g.p g.f g.h
abbrev Thr.gap (t : Thr) (p h : Int) : Int := t.a * t.d + t.c * p * t.b - h * t.b * t.d
structure OkT (t : Thr) : Prop where
 a1 : t.a.natAbs ≤ 999999999
 b1 : t.b.natAbs ≤ 999999999
 c1 : t.c.natAbs ≤ 999999999
 d1 : t.d.natAbs ≤ 999999999
 b0 : 0 < t.b
 d0 : 0 < t.d
 g1 : Int.gcd t.a t.b = 1
 g2 : Int.gcd t.c t.d = 1
theorem Pr {i : Int} {n : Nat} (h : i.natAbs ≤ n) (hn : n ≤ 10 ^ 60) : Md i := Nat.le_trans h hn
theorem atLn {P : Int → Prop} {ls : List Int} {e : Int} (h0 : 0 ≤ e) (h1 : e < ls.length) (h : ∀ x ∈ ls, P x) : ∃ v : Int, atI (ls.map V.int) e = some (V.int v) ∧ P v := by
 refine ⟨_, BA h0 h1, ?_⟩
 have hl : e.toNat < ls.length := by omega
 rw [List.getD_eq_getElem?_getD, List.getElem?_eq_getElem hl]
 exact h _ (List.getElem_mem hl)
def Gf (u w m : Int) (g : G) : Prop := g.f * m ≤ u + w * g.p ∧ u + w * g.p ≤ g.h * m
theorem S9 {t : Thr} {g : G} : t.pas g ↔ Gf (t.a * t.d) (t.c * t.b) (t.b * t.d) g := by
 show Pas _ _ _ _ _ _ _ ↔ _
 unfold Pas Gf
 rw [show g.p * t.c * t.b = t.c * t.b * g.p by grind]
theorem OX {a b c : G} {u w m : Int} (h1 : a.p < b.p) (h2 : b.p < c.p) (hm : 0 < m) (hb : K4 a b c) (la : Gf u w m a) (lb : Gf u w m b) (lc : Gf u w m c) : False := by
 obtain ⟨a1, a2⟩ := la
 obtain ⟨b1, b2⟩ := lb
 obtain ⟨c1, c2⟩ := lc
 have e : (u + w * b.p) * (c.p - a.p) = (u + w * a.p) * (c.p - b.p) + (u + w * c.p) * (b.p - a.p) := by grind
 rcases hb with hb | hb
 ·unfold D0 at hb
  have k1 := Int.mul_lt_mul_of_pos_right hb hm
  have k2 := Int.mul_le_mul_of_nonneg_right b1 (show 0 ≤ c.p - a.p by omega)
  have k3 := Int.mul_le_mul_of_nonneg_right a2 (show 0 ≤ c.p - b.p by omega)
  have k4 := Int.mul_le_mul_of_nonneg_right c2 (show 0 ≤ b.p - a.p by omega)
  rw [e] at k2
  have e1 : (a.h * (c.p - b.p) + c.h * (b.p - a.p)) * m = a.h * m * (c.p - b.p) + c.h * m * (b.p - a.p) := by grind
  have e2 : b.f * (c.p - a.p) * m = b.f * m * (c.p - a.p) := by grind
  rw [e1, e2] at k1
  omega
 ·unfold Fx at hb
  have k1 := Int.mul_lt_mul_of_pos_right hb hm
  have k2 := Int.mul_le_mul_of_nonneg_right b2 (show 0 ≤ c.p - a.p by omega)
  have k3 := Int.mul_le_mul_of_nonneg_right a1 (show 0 ≤ c.p - b.p by omega)
  have k4 := Int.mul_le_mul_of_nonneg_right c1 (show 0 ≤ b.p - a.p by omega)
  rw [e] at k2
  have e1 : (a.f * (c.p - b.p) + c.f * (b.p - a.p)) * m = a.f * m * (c.p - b.p) + c.f * m * (b.p - a.p) := by grind
  have e2 : b.h * (c.p - a.p) * m = b.h * m * (c.p - a.p) := by grind
  rw [e1, e2] at k1
  omega
theorem F0 {gs : List G} (ha : Asc gs) {i j : Nat} {x y : G} (hx : gs[i]? = some x) (hy : gs[j]? = some y) (hij : i < j) : x.p < y.p := by
 obtain ⟨h1, rfl⟩ := List.getElem?_eq_some_iff.mp hx
 obtain ⟨h2, rfl⟩ := List.getElem?_eq_some_iff.mp hy
 exact List.pairwise_iff_getElem.mp ha i j h1 h2 hij
theorem IQ {gs : List G} (ok : ∀ g ∈ gs, OkG g) {x y : G} (hx : x ∈ gs) (hy : y ∈ gs) (lt : x.p < y.p)
  (least : ∀ x' ∈ gs, ∀ y' ∈ gs, x'.p < y'.p → (y.h - x.f) * (y'.p - x'.p) ≤ (y'.h - x'.f) * (y.p - x.p))
  (uniq : ∀ g ∈ gs, ∀ g' ∈ gs, g.p = g'.p → g = g')
  (nb1 : ∀ m ∈ gs, m.p < x.p → ¬ D0 m x y) (nb2 : ∀ m ∈ gs, y.p < m.p → ¬ Fx x y m) :
  ∀ g ∈ gs, Gf (x.f * y.p - y.h * x.p) (y.h - x.f) (y.p - x.p) g := by
 intro g hg
 have og := ok g hg
 have ox := ok x hx
 have oy := ok y hy
 have gfh := og.fh
 unfold Gf
 have eL : x.f * y.p - y.h * x.p + (y.h - x.f) * g.p = x.f * (y.p - g.p) + y.h * (g.p - x.p) := by grind
 rw [eL]
 rcases Int.lt_trichotomy g.p x.p with h | h | h
 ·have k1 := least g hg y hy (by omega)
  refine ⟨by grind, ?_⟩
  have k2 := nb1 g hg h
  unfold D0 at k2
  rw [Int.not_lt] at k2
  grind
 ·have := uniq g hg x hx h
  subst this
  refine ⟨by grind, ?_⟩
  have := Int.mul_le_mul_of_nonneg_right gfh (show 0 ≤ y.p - g.p by omega)
  grind
 ·rcases Int.lt_trichotomy g.p y.p with h' | h' | h'
  ·have k1 := least g hg y hy h'
   have k2 := least x hx g hg h
   exact ⟨by grind, by grind⟩
  ·have := uniq g hg y hy h'
   subst this
   refine ⟨?_, by grind⟩
   have := Int.mul_le_mul_of_nonneg_right gfh (show 0 ≤ g.p - x.p by omega)
   grind
  ·have k1 := least x hx g hg (by omega)
   refine ⟨?_, by grind⟩
   have k2 := nb2 g hg h'
   unfold Fx at k2
   rw [Int.not_lt] at k2
   grind
theorem Az.fresh {H : Hp} {as : List Addr} {gs : List G} {D : Addr} {o : HO} (h : Az H as gs) (hD : ∀ ys, H D ≠ some (.tup ys)) : Az (L2.upd H D o) as gs := by
 induction h with
 | nil => exact .nil
 | cons e _ ih =>
  refine .cons ?_ ih
  rw [AK (fun z => hD _ (z ▸ e))]
  exact e
theorem On {K : PySem.W.Frag} {a : Addr} {as : List Addr} {gs : List G} {tc : TT} {caps : St} {D : Addr} {H1 : Hp} {Q : Hp → Prop} (P : G → Bool) (hl : SqL K H1 a (as.map V.ref)) (ga : Az H1 as gs) (hD : H1 D = none) (hz : gs.length ≤ 1000)
  (ht : ∀ v g H (R : Bool → Hp → Prop), g ∈ gs → AL H1 H → H v = some (.tup (G.vs g)) → R (P g) H → tc (some (.ref v) :: caps) H R)
  (hd : ∀ H as', AL H1 H → H D = some (.lst (as'.map V.ref)) → Az H as' (gs.filter P) → Q H) : Gd (Kw 0) tc caps (Itl K a) D H1 Q := by
 have la := ga.len
 refine B1 (xs := as.map V.ref) (fun i ys H => ∃ as' : List Addr, ys = as'.map V.ref ∧ AL H1 H ∧ H D = some (.lst ys) ∧ Az H as' ((gs.take i).filter P) ∧ as'.length ≤ i) ⟨[], rfl, BD hD, AO, .nil, Nat.le_refl _⟩ (fun _ _ H _ ⟨_, _, s1, _⟩ => s1.seq hl) ?_ ?_
 ·rintro i x ys H hx ⟨as', rfl, s1, e1, g1, l1⟩
  have hi : i < gs.length := by
   have := (List.getElem?_eq_some_iff.mp hx).1
   rw [List.length_map] at this
   omega
  obtain ⟨v, hv, t1⟩ := ga.get (List.getElem?_eq_getElem hi)
  have ex : x = V.ref v := by
   rw [List.getElem?_map, hv] at hx
   exact (Option.some.inj hx).symm
  subst ex
  have et : gs.take (i + 1) = gs.take i ++ [gs[i]] := List.take_succ_eq_append_getElem hi
  refine ht v gs[i] H _ (List.getElem_mem hi) s1 (s1.get t1) ?_
  have hlen : (as.map V.ref).length = gs.length := by rw [List.length_map, la]
  by_cases hp : P gs[i] = true
  ·rw [if_pos hp]
   refine ⟨_, rfl, e1, by rw [List.length_map, PySem.sizeLine_eq]; omega, _, by omega, rfl, by omega, as' ++ [v], by rw [List.map_append]; rfl, s1.updFresh hD, AO, ?_, by rw [List.length_append]; simp; omega⟩
   rw [et, List.filter_append, List.filter_cons, if_pos hp, List.filter_nil]
   exact (g1.snoc (s1.get t1)).fresh (fun ys z => by rw [e1] at z; cases z)
  ·rw [if_neg hp]
   refine ⟨_, by omega, rfl, by omega, as', rfl, s1, e1, ?_, by omega⟩
   rw [et, List.filter_append, List.filter_cons, if_neg hp, List.filter_nil, List.append_nil]
   exact g1
 ·rintro ys H ⟨as', rfl, s1, e1, g1, l1⟩
  rw [List.length_map, la, List.take_length] at g1
  exact hd H as' s1 e1 g1
theorem Paired.get {α β : Type} {F : α → β → Prop} {xs : List α} {ys : List β} (h : Paired F xs ys) {i : Nat} {y : β} (hy : ys[i]? = some y) : ∃ x, xs[i]? = some x ∧ F x y := by
 induction h generalizing i with
 | nil => exact absurd hy (by simp)
 | cons e _ ih =>
  cases i with
  | zero =>
   rw [List.getElem?_cons_zero] at hy ⊢
   cases hy
   exact ⟨_, rfl, e⟩
  | succ i =>
   rw [List.getElem?_cons_succ] at hy ⊢
   exact ih hy
theorem Rk {xs : List G} (h : xs.length ≤ 2) : Jk xs := fun i j k hb => by
 have := hb.lt
 have := hb.1
 have := hb.2.1
 omega
theorem QM {gs : List G} (ha : Asc gs) {u w m : Int} (hm : 0 < m) (h : ∀ g ∈ gs, Gf u w m g) : Jk gs := fun i j k ⟨h1, h2, a, b, c, e1, e2, e3, hb⟩ =>
 OX (F0 ha e1 e2 h1) (F0 ha e2 e3 h2) hm hb (h _ (List.mem_of_getElem? e1)) (h _ (List.mem_of_getElem? e2)) (h _ (List.mem_of_getElem? e3))
theorem Az.takeG {H : Hp} {as : List Addr} {gs : List G} (h : Az H as gs) (n : Nat) : Az H (as.take n) (gs.take n) := by
 induction h generalizing n with
 | nil => rw [List.take_nil, List.take_nil]; exact .nil
 | cons e t ih =>
  cases n with
  | zero => exact .nil
  | succ n => exact .cons e (ih n)
theorem ME {xs : List V} {i : Nat} : Mc xs none (some (i : Int)) = xs.take i := by
 unfold Mc
 rw [HT.sIx_nat, HT.sIx_none, List.drop_zero, Nat.sub_zero]
 by_cases h : i ≤ xs.length
 ·rw [Nat.min_eq_left h]
 ·rw [Nat.min_eq_right (by omega), List.take_length, List.take_of_length_le (by omega)]
theorem Az.append {H : Hp} {as bs : List Addr} {gs hs : List G} (h : Az H as gs) (h' : Az H bs hs) : Az H (as ++ bs) (gs ++ hs) := by
 induction h with
 | nil => exact h'
 | cons e _ ih => exact .cons e ih
theorem GE {K : PySem.W.Frag} {a : Addr} {as : List Addr} {gs : List G} {te : TE} {tc : TT} {caps : St} {D : Addr} {H1 : Hp} {Q : Hp → Prop} (P : G → Bool) (f : G → V) (hl : SqL K H1 a (as.map V.ref)) (ga : Az H1 as gs) (hD : H1 D = none) (hz : gs.length ≤ 1000)
  (ht : ∀ v g H (R : Bool → Hp → Prop), g ∈ gs → AL H1 H → H v = some (.tup (G.vs g)) → R (P g) H → tc (some (.ref v) :: caps) H R)
  (he : ∀ v g H (R : VK), g ∈ gs → AL H1 H → H v = some (.tup (G.vs g)) → R (f g) H → te (some (.ref v) :: caps) H R)
  (hd : ∀ H, AL H1 H → H D = some (.lst ((gs.filter P).map f)) → Q H) : Gd te tc caps (Itl K a) D H1 Q := by
 have la := ga.len
 refine B1 (xs := as.map V.ref) (fun i ys H => ys = ((gs.take i).filter P).map f ∧ AL H1 H ∧ H D = some (.lst ys)) ⟨rfl, BD hD, AO⟩ (fun _ _ H _ ⟨_, s1, _⟩ => s1.seq hl) ?_ ?_
 ·rintro i x ys H hx ⟨rfl, s1, e1⟩
  have hi : i < gs.length := by
   have := (List.getElem?_eq_some_iff.mp hx).1
   rw [List.length_map] at this
   omega
  obtain ⟨v, hv, t1⟩ := ga.get (List.getElem?_eq_getElem hi)
  have ex : x = V.ref v := by
   rw [List.getElem?_map, hv] at hx
   exact (Option.some.inj hx).symm
  subst ex
  have et : gs.take (i + 1) = gs.take i ++ [gs[i]] := List.take_succ_eq_append_getElem hi
  have hlen : (as.map V.ref).length = gs.length := by rw [List.length_map, la]
  have hle : (((gs.take i).filter P).map f).length ≤ i := by
   rw [List.length_map]
   exact Nat.le_trans (List.length_filter_le _ _) (List.length_take_le _ _)
  refine ht v gs[i] H _ (List.getElem_mem hi) s1 (s1.get t1) ?_
  by_cases hp : P gs[i] = true
  ·rw [if_pos hp]
   refine he v gs[i] H _ (List.getElem_mem hi) s1 (s1.get t1) ?_
   refine ⟨e1, by rw [PySem.sizeLine_eq]; omega, _, by omega, rfl, by omega, ?_, s1.updFresh hD, AO⟩
   rw [et, List.filter_append, List.filter_cons, if_pos hp, List.filter_nil, List.map_append]
   rfl
  ·rw [if_neg hp]
   refine ⟨_, by omega, rfl, by omega, ?_, s1, e1⟩
   rw [et, List.filter_append, List.filter_cons, if_neg hp, List.filter_nil, List.append_nil]
 ·rintro ys H ⟨rfl, s1, e1⟩
  rw [List.length_map, la, List.take_length] at e1
  exact hd H s1 e1
structure Ev (H : Hp) (D : Addr) (gs : List G) (L q : Addr) (t : Thr) (sg : List G) : Prop where
 eD : H D = some (.tup [.ref L, .ref q])
 eL : H L = some (.lst (((sg.filter fun g => decide (t.pas g)).map G.p).map V.int))
 eq : H q = some (.tup t.vs)
 ok : OkT t
 hp : sg.Perm gs
 ha : Asc sg
 most : ∀ u w m : Int, 0 < m → ∀ ps : List G, ps.Sublist sg → (∀ g ∈ ps, Gf u w m g) → ps.length ≤ (sg.filter fun g => decide (t.pas g)).length
theorem Ev.same {H H' : Hp} {D : Addr} {gs : List G} {L q : Addr} {t : Thr} {sg : List G} (h : Ev H D gs L q t sg) (s : AL H H') : Ev H' D gs L q t sg := ⟨s.get h.eD, s.get h.eL, s.get h.eq, h.ok, h.hp, h.ha, h.most⟩
theorem IY : ∀ (xs : List (Int × Int)), xs ≠ [] → (∀ x ∈ xs, 0 < x.2) → ∃ x ∈ xs, ∀ y ∈ xs, x.1 * y.2 ≤ y.1 * x.2
 | [], h, _ => absurd rfl h
 | [x], _, _ => ⟨x, by simp, fun y hy => by rw [List.mem_singleton.mp hy]; exact Int.le_refl _⟩
 | x :: z :: xs, _, hp => by
  obtain ⟨y, hy, hm⟩ := IY (z :: xs) (by simp) (fun w hw => hp w (List.mem_cons_of_mem _ hw))
  have px := hp x (by simp)
  have py := hp y (List.mem_cons_of_mem _ hy)
  by_cases h : x.1 * y.2 ≤ y.1 * x.2
  ·refine ⟨x, by simp, fun w hw => ?_⟩
   rcases List.mem_cons.mp hw with e | e
   ·rw [e]; exact Int.le_refl _
   ·have pw := hp w hw
    have k1 := Int.mul_le_mul_of_nonneg_right h (show 0 ≤ w.2 by omega)
    have k2 := Int.mul_le_mul_of_nonneg_right (hm w e) (show 0 ≤ x.2 by omega)
    have k3 : x.1 * w.2 * y.2 ≤ w.1 * x.2 * y.2 := by grind
    exact Int.le_of_mul_le_mul_right k3 py
  ·refine ⟨y, List.mem_cons_of_mem _ hy, fun w hw => ?_⟩
   rcases List.mem_cons.mp hw with e | e
   ·rw [e]; omega
   ·exact hm w e
theorem Gz {gs : List G} (ha : Asc gs) {i j : Nat} {x y : G} (hx : gs[i]? = some x) (hy : gs[j]? = some y) (h : x.p < y.p) : i < j := by
 rcases Nat.lt_trichotomy i j with c | c | c
 ·exact c
 ·subst c
  rw [hx] at hy
  cases hy
  omega
 ·have := F0 ha hy hx c
  omega
theorem EC {gs : List G} (ha : Asc gs) (nb : Jk gs) {a b c : G} (h1 : a ∈ gs) (h2 : b ∈ gs) (h3 : c ∈ gs) (l1 : a.p < b.p) (l2 : b.p < c.p) : ¬ K4 a b c := by
 obtain ⟨i, hi⟩ := List.mem_iff_getElem?.mp h1
 obtain ⟨j, hj⟩ := List.mem_iff_getElem?.mp h2
 obtain ⟨k, hk⟩ := List.mem_iff_getElem?.mp h3
 exact fun hb => nb i j k ⟨Gz ha hi hj l1, Gz ha hj hk l2, a, b, c, hi, hj, hk, hb⟩
theorem Io {gs : List G} (ha : Asc gs) {x y : G} (hx : x ∈ gs) (hy : y ∈ gs) (e : x.p = y.p) : x = y := by
 obtain ⟨i, hi⟩ := List.mem_iff_getElem?.mp hx
 obtain ⟨j, hj⟩ := List.mem_iff_getElem?.mp hy
 rcases Nat.lt_trichotomy i j with c | c | c
 ·have := F0 ha hi hj c
  omega
 ·subst c
  rw [hi] at hj
  exact Option.some.inj hj
 ·have := F0 ha hj hi c
  omega
theorem helly {gs : List G} (ok : ∀ g ∈ gs, OkG g) (ha : Asc gs) (nb : Jk gs) : ∃ u w m : Int, 0 < m ∧ ∀ g ∈ gs, Gf u w m g := by
 match gs, ok, ha, nb with
 | [], _, _, _ => exact ⟨0, 0, 1, by decide, fun g hg => absurd hg (by simp)⟩
 | [x], ok, _, _ =>
  refine ⟨x.f, 0, 1, by decide, fun g hg => ?_⟩
  rw [List.mem_singleton.mp hg]
  have := (ok x (by simp)).fh
  exact ⟨by omega, by omega⟩
 | x0 :: y0 :: gs0, ok, ha, nb =>
  generalize hg : x0 :: y0 :: gs0 = gs at *
  have hx0 : x0 ∈ gs := by rw [← hg]; simp
  have hy0 : y0 ∈ gs := by rw [← hg]; simp
  have l0 : x0.p < y0.p := by
   rw [← hg] at ha
   exact (List.pairwise_cons.mp ha).1 y0 (by simp)
  let ps : List (Int × Int) := gs.flatMap fun x => (gs.filter fun y => decide (x.p < y.p)).map fun y => (y.h - x.f, y.p - x.p)
  have mem : ∀ {x y : G}, x ∈ gs → y ∈ gs → x.p < y.p → (y.h - x.f, y.p - x.p) ∈ ps := fun {x y} hx hy l => by
   refine List.mem_flatMap.mpr ⟨x, hx, List.mem_map.mpr ⟨y, List.mem_filter.mpr ⟨hy, decide_eq_true l⟩, rfl⟩⟩
  have inv : ∀ z ∈ ps, ∃ x ∈ gs, ∃ y ∈ gs, x.p < y.p ∧ z = (y.h - x.f, y.p - x.p) := fun z hz => by
   obtain ⟨x, hx, h2⟩ := List.mem_flatMap.mp hz
   obtain ⟨y, hy, rfl⟩ := List.mem_map.mp h2
   obtain ⟨h3, h4⟩ := List.mem_filter.mp hy
   exact ⟨x, hx, y, h3, of_decide_eq_true h4, rfl⟩
  obtain ⟨z, hz, hm⟩ := IY ps (fun e => by have := mem hx0 hy0 l0; rw [e] at this; simp at this) (fun z hz => by
   obtain ⟨x, _, y, _, l, rfl⟩ := inv z hz
   show 0 < y.p - x.p
   omega)
  obtain ⟨x, hx, y, hy, l, rfl⟩ := inv z hz
  refine ⟨_, _, y.p - x.p, by omega, IQ ok hx hy l (fun x' hx' y' hy' l' => hm _ (mem hx' hy' l')) (fun g hg g' hg' e => Io ha hg hg' e) (fun m hm l1 hb => ?_) (fun m hm l1 hb => ?_)⟩
  ·exact EC ha nb hm hx hy l1 l (.inl hb)
  ·exact EC ha nb hx hy hm l l1 (.inr hb)
theorem Ro {K : PySem.W.Frag} {a : Addr} {as : List Addr} {gs : List G} {te : TE} {caps : St} {D : Addr} {H1 : Hp} {Q : Hp → Prop} (F : Hp → V → G → Prop) (fs : ∀ H H' v g, AL H H' → F H v g → F H' v g)
  (fd : ∀ H v g xs ys, H D = some (.lst xs) → F H v g → F (L2.upd H D (.lst ys)) v g) (hl : SqL K H1 a (as.map V.ref)) (ga : Az H1 as gs) (hD : H1 D = none) (hz : gs.length ≤ 1000)
  (he : ∀ v g H (R : VK), g ∈ gs → AL H1 H → H v = some (.tup (G.vs g)) → (∀ y H', AL H H' → F H' y g → R y H') → te (some (.ref v) :: caps) H R)
  (hd : ∀ H ys, AL H1 H → H D = some (.lst ys) → Paired (F H) ys gs → Q H) : Gd te GZ caps (Itl K a) D H1 Q := by
 have la := ga.len
 have hlen : (as.map V.ref).length = gs.length := by rw [List.length_map, la]
 refine B1 (xs := as.map V.ref) (fun i ys H => AL H1 H ∧ H D = some (.lst ys) ∧ Paired (F H) ys (gs.take i)) ⟨BD hD, AO, .nil⟩ (fun _ _ H _ ⟨s1, _⟩ => s1.seq hl) ?_ ?_
 ·rintro i x ys H hx ⟨s1, e1, pr⟩
  have hi : i < gs.length := by
   have := (List.getElem?_eq_some_iff.mp hx).1
   omega
  obtain ⟨v, hv, t1⟩ := ga.get (List.getElem?_eq_getElem hi)
  have ex : x = V.ref v := by
   rw [List.getElem?_map, hv] at hx
   exact (Option.some.inj hx).symm
  subst ex
  have et : gs.take (i + 1) = gs.take i ++ [gs[i]] := List.take_succ_eq_append_getElem hi
  have hle : ys.length ≤ i := by
   rw [Paired.length pr]
   exact List.length_take_le _ _
  unfold GZ
  dsimp only
  rw [if_pos rfl]
  refine he v gs[i] H _ (List.getElem_mem hi) s1 (s1.get t1) fun y H' s2 fy => ?_
  refine ⟨s2.get e1, by rw [PySem.sizeLine_eq]; omega, _, by omega, rfl, by omega, (s1.trans s2).updFresh hD, AO, ?_⟩
  rw [et]
  have e2 := s2.get e1
  have pr2 := Paired.mapP pr fun v g h => fd _ _ _ _ (ys ++ [y]) e2 (fs _ _ _ _ s2 h)
  have app : ∀ {α β : Type} {F : α → β → Prop} {l : List α} {r : List β} {x : α} {y : β}, Paired F l r → F x y → Paired F (l ++ [x]) (r ++ [y]) := by
   intro α β F l r x y h hxy
   induction h with
   | nil => exact .cons hxy .nil
   | cons h1 _ ih => exact .cons h1 ih
  exact app pr2 (fd _ _ _ _ _ e2 fy)
 ·rintro ys H ⟨s1, e1, pr⟩
  rw [hlen, List.take_length] at pr
  exact hd H ys s1 e1 pr
theorem Paired.eq_map {α β : Type} {f : β → α} : ∀ {xs : List α} {ys : List β}, Paired (fun x y => x = f y) xs ys → xs = ys.map f
 | _, _, .nil => rfl
 | _, _, .cons h t => by rw [List.map_cons, ← Paired.eq_map t, h]
theorem OR {p0 h0 p1 h1 a b c d : Int} (lt : p0 < p1) (L1 : IU (h0 * (p1 - p0) - p0 * (h1 - h0)) (p1 - p0) a b) (L2 : IU (h1 - h0) (p1 - p0) c d) :
  (∀ g : G, (⟨a, b, c, d⟩ : Thr).pas g ↔ Gf (h0 * p1 - h1 * p0) (h1 - h0) (p1 - p0) g) ∧ (⟨a, b, c, d⟩ : Thr).gap p0 h0 = 0 ∧ (⟨a, b, c, d⟩ : Thr).gap p1 h1 = 0 := by
 have e1 := L1.eq
 have e2 := L2.eq
 have hb := L1.pos
 have hd := L2.pos
 have hbd : 0 < b * d := Int.mul_pos hb hd
 have hS : 0 < p1 - p0 := by omega
 have eU : h0 * (p1 - p0) - p0 * (h1 - h0) = h0 * p1 - h1 * p0 := by grind
 rw [eU] at e1
 have key : ∀ p, (p1 - p0) * (a * d + c * b * p) = (b * d) * (h0 * p1 - h1 * p0 + (h1 - h0) * p) := fun p => by grind
 refine ⟨fun g => ?_, ?_, ?_⟩
 ·rw [S9]
  unfold Gf
  show g.f * (b * d) ≤ a * d + c * b * g.p ∧ a * d + c * b * g.p ≤ g.h * (b * d) ↔ _
  have k := key g.p
  constructor
  ·rintro ⟨q1, q2⟩
   have r1 := Int.mul_le_mul_of_nonneg_left q1 (Int.le_of_lt hS)
   have r2 := Int.mul_le_mul_of_nonneg_left q2 (Int.le_of_lt hS)
   rw [k] at r1 r2
   refine ⟨Int.le_of_mul_le_mul_left (a := b * d) ?_ hbd, Int.le_of_mul_le_mul_left (a := b * d) ?_ hbd⟩
   ·rw [show b * d * (g.f * (p1 - p0)) = (p1 - p0) * (g.f * (b * d)) by grind]; exact r1
   ·rw [show b * d * (g.h * (p1 - p0)) = (p1 - p0) * (g.h * (b * d)) by grind]; exact r2
  ·rintro ⟨q1, q2⟩
   have r1 := Int.mul_le_mul_of_nonneg_left q1 (Int.le_of_lt hbd)
   have r2 := Int.mul_le_mul_of_nonneg_left q2 (Int.le_of_lt hbd)
   rw [← k] at r1 r2
   refine ⟨Int.le_of_mul_le_mul_left (a := p1 - p0) ?_ hS, Int.le_of_mul_le_mul_left (a := p1 - p0) ?_ hS⟩
   ·rw [show (p1 - p0) * (g.f * (b * d)) = b * d * (g.f * (p1 - p0)) by grind]; exact r1
   ·rw [show (p1 - p0) * (g.h * (b * d)) = b * d * (g.h * (p1 - p0)) by grind]; exact r2
 ·show a * d + c * p0 * b - h0 * b * d = 0
  have k := key p0
  have hz : (p1 - p0) * (a * d + c * p0 * b - h0 * b * d) = 0 := by grind
  rcases Int.mul_eq_zero.mp hz with z | z
  ·omega
  ·exact z
 ·show a * d + c * p1 * b - h1 * b * d = 0
  have k := key p1
  have hz : (p1 - p0) * (a * d + c * p1 * b - h1 * b * d) = 0 := by grind
  rcases Int.mul_eq_zero.mp hz with z | z
  ·omega
  ·exact z
theorem RA {p0 h0 p1 h1 a b c d : Int} (b0 : p0.natAbs ≤ 1000) (b1 : h0.natAbs ≤ 1000) (b2 : p1.natAbs ≤ 1000) (b3 : h1.natAbs ≤ 1000) (L1 : IU (h0 * (p1 - p0) - p0 * (h1 - h0)) (p1 - p0) a b) (L2 : IU (h1 - h0) (p1 - p0) c d) : OkT ⟨a, b, c, d⟩ := by
 have m1 := CS (m := 1000) (n := 2000) b1 (show (p1 - p0).natAbs ≤ 2000 by clear L1 L2 b1 b3; omega)
 have m2 := CS (m := 1000) (n := 2000) b0 (show (h1 - h0).natAbs ≤ 2000 by clear L1 L2 m1 b0 b2; omega)
 have t1 : (h0 * (p1 - p0) - p0 * (h1 - h0)).natAbs ≤ 1000 * 2000 + 1000 * 2000 := Nat.le_trans (Int.natAbs_sub_le _ _) (Nat.add_le_add m1 m2)
 have s1 : (p1 - p0).natAbs ≤ 2000 := by clear m1 m2 t1 L1 L2 b1 b3; omega
 have s2 : (h1 - h0).natAbs ≤ 2000 := by clear m1 m2 t1 L1 L2 b0 b2; omega
 exact ⟨Nat.le_trans L1.absx (Nat.le_trans t1 (by decide)), Nat.le_trans L1.absy (Nat.le_trans s1 (by decide)), Nat.le_trans L2.absx (Nat.le_trans s2 (by decide)), Nat.le_trans L2.absy (Nat.le_trans s1 (by decide)), L1.pos, L2.pos, L1.one, L2.one⟩
def LeR (x y u v : G) : Prop := (y.h - x.f) * (v.p - u.p) ≤ (v.h - u.f) * (y.p - x.p)
theorem LeR.refl (x y : G) : LeR x y x y := Int.le_refl _
theorem LeR.trans {x y u v u' v' : G} (l0 : x.p < y.p) (l1 : u.p < v.p) (l2 : u'.p < v'.p) (h1 : LeR x y u v) (h2 : LeR u v u' v') : LeR x y u' v' := by
 unfold LeR at *
 have r1 := Int.mul_le_mul_of_nonneg_right h1 (show 0 ≤ v'.p - u'.p by omega)
 have r2 := Int.mul_le_mul_of_nonneg_right h2 (show 0 ≤ y.p - x.p by omega)
 refine Int.le_of_mul_le_mul_left (a := v.p - u.p) ?_ (by omega)
 have e1 : (v.p - u.p) * ((y.h - x.f) * (v'.p - u'.p)) = (y.h - x.f) * (v.p - u.p) * (v'.p - u'.p) := by grind
 have e2 : (v.p - u.p) * ((v'.h - u'.f) * (y.p - x.p)) = (v'.h - u'.f) * (v.p - u.p) * (y.p - x.p) := by grind
 have e3 : (v.h - u.f) * (y.p - x.p) * (v'.p - u'.p) = (v.h - u.f) * (v'.p - u'.p) * (y.p - x.p) := by grind
 rw [e1, e2]
 rw [e3] at r1
 exact Int.le_trans r1 r2
structure Tl (H : Hp) (D : Addr) (gs : List G) (q : Addr) (t : Thr) (x y : G) : Prop where
 eD : H D = some (.tup [.ref q, .int x.p, .int y.p])
 eq : H q = some (.tup t.vs)
 ok : OkT t
 all : ∀ g ∈ gs, t.pas g
 hx : x ∈ gs
 hy : y ∈ gs
 lt : x.p < y.p
 tx : t.gap x.p x.f = 0
 ty : t.gap y.p y.h = 0
theorem IV {gs : List G} (ha : Asc gs) (ok : ∀ g ∈ gs, OkG g) {x y : G} (hx : x ∈ gs) (hy : y ∈ gs) (lt : x.p < y.p) (least : ∀ x' ∈ gs, ∀ y' ∈ gs, x'.p < y'.p → LeR x y x' y') (hn : ¬ ∀ g ∈ gs, Gf (x.f * y.p - y.h * x.p) (y.h - x.f) (y.p - x.p) g) : ¬ Jk gs := fun nb =>
 hn (IQ ok hx hy lt least (fun g hg g' hg' e => Io ha hg hg' e) (fun m hm l z => EC ha nb hm hx hy l lt (.inl z)) (fun m hm l z => EC ha nb hx hy hm lt l (.inr z)))
theorem Rl {K : PySem.W.Frag} {a : Addr} {xs : List V} {te : TE} {tc : TT} {caps : St} {D : Addr} {H1 : Hp} {Q : Hp → Prop} (F : Hp → V → Prop) (fs : ∀ H H' v, AL H H' → F H v → F H' v)
  (fd : ∀ H v zs ys, H D = some (.lst zs) → F H v → F (L2.upd H D (.lst ys)) v) (hl : SqL K H1 a xs) (hD : H1 D = none) (hz : xs.length ≤ 100000)
  (ht : ∀ x H (R : Bool → Hp → Prop), x ∈ xs → AL H1 H → (∀ b, R b H) → tc (some x :: caps) H R)
  (he : ∀ x H (R : VK), x ∈ xs → AL H1 H → (∃ zs, H D = some (.lst zs)) → (∀ y H', AL H H' → F H' y → R y H') → te (some x :: caps) H R)
  (hd : ∀ H ys, AL H1 H → H D = some (.lst ys) → (∀ y ∈ ys, F H y) → ys.length ≤ xs.length → Q H) : Gd te tc caps (Itl K a) D H1 Q := by
 refine B1 (xs := xs) (fun i ys H => AL H1 H ∧ H D = some (.lst ys) ∧ (∀ y ∈ ys, F H y) ∧ ys.length ≤ i) ⟨BD hD, AO, fun _ h => absurd h (by simp), Nat.le_refl _⟩ (fun _ _ H _ ⟨s1, _⟩ => s1.seq hl) ?_ ?_
 ·rintro i x ys H hx ⟨s1, e1, pr, hle⟩
  have hi := (List.getElem?_eq_some_iff.mp hx).1
  have hm := List.mem_of_getElem? hx
  refine ht x H _ hm s1 fun b => ?_
  cases b with
  | false =>
   rw [if_neg (by simp)]
   exact ⟨_, by omega, rfl, by omega, s1, e1, pr, by omega⟩
  | true =>
   rw [if_pos rfl]
   refine he x H _ hm s1 ⟨_, e1⟩ fun y H' s2 fy => ?_
   have e2 := s2.get e1
   refine ⟨e2, by rw [PySem.sizeLine_eq]; omega, _, by omega, rfl, by omega, (s1.trans s2).updFresh hD, AO, fun z hz' => ?_, by rw [List.length_append]; simp; omega⟩
   rcases List.mem_append.mp hz' with q | q
   ·exact fd _ _ _ _ e2 (fs _ _ _ s2 (pr z q))
   ·rw [List.mem_singleton.mp q]; exact fd _ _ _ _ e2 fy
 ·rintro ys H ⟨s1, e1, pr, hle⟩
  exact hd H ys s1 e1 pr hle
def Ixs (n : Nat) (c : List Nat) : Prop := c.Pairwise (· < ·) ∧ ∀ i ∈ c, i < n
theorem Ixs.snoc {n : Nat} {c : List Nat} (h : Ixs n c) : Ixs (n + 1) (c ++ [n]) := by
 refine ⟨List.pairwise_append.mpr ⟨h.1, List.pairwise_singleton _ _, fun a ha b hb => by rw [List.mem_singleton.mp hb]; exact h.2 a ha⟩, fun i hi => ?_⟩
 rcases List.mem_append.mp hi with z | z
 ·exact Nat.lt_succ_of_lt (h.2 i z)
 ·rw [List.mem_singleton.mp z]; exact Nat.lt_succ_self _
theorem Ixs.mono {n m : Nat} {c : List Nat} (h : Ixs n c) (hm : n ≤ m) : Ixs m c := ⟨h.1, fun i hi => Nat.lt_of_lt_of_le (h.2 i hi) hm⟩
theorem Ixs.len : ∀ {n : Nat} {c : List Nat}, Ixs n c → c.length ≤ n := by
 intro n c h
 have hnd : c.Nodup := h.1.imp fun h => Nat.ne_of_lt h
 have hs : c ⊆ List.range n := fun i hi => List.mem_range.mpr (h.2 i hi)
 have := hnd.length_le_of_subset hs
 simpa using this
def EH (sg : List G) (c : List Nat) : List G := c.filterMap fun i => sg[i]?
theorem OW {sg : List G} : ∀ {c : List Nat}, (∀ i ∈ c, i < sg.length) → (EH sg c).length = c.length ∧ ∀ (k : Nat) (g : G), (EH sg c)[k]? = some g → ∃ i : Nat, c[k]? = some i ∧ sg[i]? = some g
 | [], _ => ⟨rfl, fun k g h => by simp [EH] at h⟩
 | i :: c, h => by
  have hi := h i List.mem_cons_self
  obtain ⟨h1, h2⟩ := OW (c := c) fun j hj => h j (List.mem_cons_of_mem _ hj)
  have e : EH sg (i :: c) = sg[i] :: EH sg c := by
   unfold EH
   rw [List.filterMap_cons, List.getElem?_eq_getElem hi]
  rw [e]
  refine ⟨by rw [List.length_cons, List.length_cons, h1], fun k g hg => ?_⟩
  cases k with
  | zero => exact ⟨i, rfl, by rw [List.getElem?_eq_getElem hi]; simpa using hg⟩
  | succ k =>
   obtain ⟨j, e1, e2⟩ := h2 k g (by simpa using hg)
   exact ⟨j, by simpa using e1, e2⟩
theorem TQ {sg : List G} {c : List Nat} (h : Ixs sg.length c) : (EH sg c).Sublist sg := by
 have e : EH sg c = c.filterMap fun i => sg[i]? := rfl
 have key : ∀ (n : Nat) (c : List Nat), Ixs n c → (c.filterMap fun i => sg[i]?).Sublist (sg.take n) := by
  intro n
  induction n with
  | zero =>
   intro c hc
   have : c = [] := List.eq_nil_iff_forall_not_mem.mpr fun i hi => Nat.not_lt_zero _ (hc.2 i hi)
   subst this
   simp
  | succ n ih =>
   intro c hc
   by_cases hn : n ∈ c
   ·have hlast : ∃ c', c = c' ++ [n] ∧ Ixs n c' := by
     have hne : c ≠ [] := fun z => by rw [z] at hn; exact absurd hn (by simp)
     refine ⟨c.dropLast, ?_, ?_⟩
     ·have hl := List.dropLast_concat_getLast hne
      have : c.getLast hne = n := by
       obtain ⟨k, hk, ek⟩ := List.getElem_of_mem hn
       have hlt : ∀ i ∈ c, i ≤ n := fun i hi => Nat.le_of_lt_succ (hc.2 i hi)
       rw [List.getLast_eq_getElem]
       by_cases hkk : k = c.length - 1
       ·subst hkk; exact ek
       ·have := List.pairwise_iff_getElem.mp hc.1 k (c.length - 1) hk (by omega) (by omega)
        rw [ek] at this
        have := hlt _ (List.getElem_mem (show c.length - 1 < c.length by omega))
        omega
      rw [this] at hl
      exact hl.symm
     ·refine ⟨List.Pairwise.sublist (List.dropLast_sublist _) hc.1, fun i hi => ?_⟩
      have hl := List.dropLast_concat_getLast hne
      have hp := hc.1
      rw [← hl, List.pairwise_append] at hp
      have h1 := hp.2.2 i hi (c.getLast hne) (by simp)
      have h2 := hc.2 _ (List.getLast_mem hne)
      omega
    obtain ⟨c', rfl, hc'⟩ := hlast
    rw [List.filterMap_append]
    by_cases hlt : n < sg.length
    ·rw [List.take_succ_eq_append_getElem hlt]
     refine (ih c' hc').append ?_
     simp [List.getElem?_eq_getElem hlt]
    ·have : sg[n]? = none := List.getElem?_eq_none (by omega)
     simp only [List.filterMap_cons, this, List.filterMap_nil, List.append_nil]
     refine (ih c' hc').trans ?_
     rw [List.take_of_length_le (by omega), List.take_of_length_le (by omega)]
     exact List.Sublist.refl _
   ·have hc' : Ixs n c := ⟨hc.1, fun i hi => by
     have := hc.2 i hi
     have hne : i ≠ n := fun z => hn (z ▸ hi)
     omega⟩
    refine (ih c hc').trans ?_
    have e3 : sg.take n = (sg.take (n + 1)).take n := by rw [List.take_take]; congr 1; omega
    rw [e3]
    exact List.take_sublist _ _
 have := key sg.length c h
 rw [List.take_length] at this
 exact this
theorem Ev.more {H : Hp} {D : Addr} {gs : List G} {L q : Addr} {t : Thr} {sg : List G} (h : Ev H D gs L q t sg) (ok : ∀ g ∈ gs, OkG g) {c : List Nat} (hc : Ixs sg.length c) (hl : c.length = (sg.filter fun g => decide (t.pas g)).length + 1) :
  ∃ i j k, i ∈ c ∧ j ∈ c ∧ k ∈ c ∧ IZ sg i j k := by
 have hsub := TQ hc
 obtain ⟨hlen, hget⟩ := OW (sg := sg) (c := c) hc.2
 have asc : Asc (EH sg c) := List.Pairwise.sublist hsub h.ha
 have nb : ¬ Jk (EH sg c) := fun nb => by
  obtain ⟨u, w, m, hm, hp⟩ := helly (fun g hg => ok g (h.hp.mem_iff.mp (hsub.subset hg))) asc nb
  have := h.most u w m hm _ hsub hp
  omega
 apply Classical.byContradiction
 intro hno
 refine nb fun i j k hb => ?_
 obtain ⟨h1, h2, a, b, d, e1, e2, e3, hb⟩ := hb
 obtain ⟨i', f1, g1⟩ := hget i a e1
 obtain ⟨j', f2, g2⟩ := hget j b e2
 obtain ⟨k', f3, g3⟩ := hget k d e3
 obtain ⟨l1, m1⟩ := List.getElem?_eq_some_iff.mp f1
 obtain ⟨l2, m2⟩ := List.getElem?_eq_some_iff.mp f2
 obtain ⟨l3, m3⟩ := List.getElem?_eq_some_iff.mp f3
 have o1 := List.pairwise_iff_getElem.mp hc.1 i j l1 l2 h1
 have o2 := List.pairwise_iff_getElem.mp hc.1 j k l2 l3 h2
 rw [m1, m2] at o1
 rw [m2, m3] at o2
 exact hno ⟨i', j', k', List.mem_of_getElem? f1, List.mem_of_getElem? f2, List.mem_of_getElem? f3, o1, o2, a, b, d, g1, g2, g3, hb⟩
theorem Rw {X : Cx} {K : PySem.W.Frag} (h : X.K = K) : CA X (.builtin "len") (fun xs H Q => ∃ p ys, xs = [.ref p] ∧ (SqL K H p ys ∨ SqT K H p ys) ∧ Q (.int ys.length) H) := by
 subst h
 exact AU
end TG
set_option Elab.async false
set_option linter.all false
set_option maxRecDepth 100000
set_option maxHeartbeats 4000000
namespace L2
open PySem PySem.Spec PyProof.Rows
theorem BZ.here {P : Program} {w : World} {H : Hp} {h : Heap} {a : Addr} {o : HO} (x : BZ P w H h a o) : ∃ ob, h.get? a = some ob := by
 cases q : h.get? a with
 | some ob => exact ⟨ob, rfl⟩
 | none =>
  exfalso
  have x' : BZ P w H h a o := x
  induction o with
  | lst xs => obtain ⟨_, _, _, _, e⟩ := x'; rw [q] at e; cases e
  | tup xs => obtain ⟨_, _, _, o, e, _⟩ := x'; rw [q] at e; cases e
  | dK kvs => obtain ⟨_, _, _, _, o, _, _, e, _⟩ := x'; rw [q] at e; cases e
  | dT kvs => obtain ⟨_, _, _, _, o, _, _, e, _⟩ := x'; rw [q] at e; cases e
  | set S n => obtain ⟨o, _, _, _, e, _⟩ := x'; rw [q] at e; cases e
  | ins C dx fs => obtain ⟨_, _, _, e, _⟩ := x'; rw [q] at e; cases e
  | own b => obtain ⟨o, e⟩ := x'; rw [q] at e; cases e
  | xd fs => obtain ⟨_, ⟨o, _, _, e, _⟩, _⟩ := x'; rw [q] at e; cases e
  | rng lo hi => obtain ⟨_, _, _, e⟩ := x'; rw [q] at e; cases e
  | frz o u ih => exact ih x'.2 x'.2
  | tbl ps => have e : h.get? a = _ := x'; rw [q] at e; cases e
  | met f y => have e : h.get? a = _ := x'; rw [q] at e; cases e
  | ext φ => obtain ⟨_, ⟨o, e⟩, _⟩ := x'; rw [q] at e; cases e
def Fly (l : List Env) (hs : Heap) (H' : Hp) (ea : Addr) (cls : Value) (h : Heap) : Prop :=
 ∃ (B : Heap) (a0 : Value), Heap.FlyingW B l ea cls a0 h ∧ (∀ b o, hs.get? b = some o → b ∉ frs l → ∃ o', B.get? b = some o') ∧ ∀ b, H' b ≠ none → ∃ o', B.get? b = some o'
def CXE (P : Program) (w : World) : CXT := fun outer H s E e s' => ∃ (ea : Addr) (cls : Value) (H' : Hp), e = .ref ea ∧ s'.os = s.os ∧ AllBare s'.gens ∧ Un (frs outer) [] H H' s.heap s'.heap ∧ HOk P w H' s'.heap ∧ Fly outer s.heap H' ea cls s'.heap ∧ E cls none H'
section
variable {X : Cx} {pins : List (Addr × Obj)} {σ σ1 : St} {H H1 H' : Hp} {s s1 s' : Shared} {h' B : Heap} {ea : Addr} {cls : Value}
theorem Inv.notStack (I : Inv X pins σ H s) {b : Addr} {o : Obj} (e : X.s₀.heap.get? b = some o) (hb : b ∉ X.fs) : b ∉ frs X.stack := fun hm => by
 rcases List.mem_cons.mp (I.stkSub b hm) with z | z
 ·exact absurd (Nat.lt_of_lt_of_le (Heap.lt_size e) I.ok.above) (by rw [z]; exact Nat.lt_irrefl _)
 ·exact hb z
theorem Inv.fly (I1 : Inv X pins σ1 H1 s1) (I : Inv X pins σ H s) (hB : B.StaysIn s.heap) (hB' : B.StaysIn h') (up : s.heap.UpToSlots h')
  (c1 : ∀ b o, s1.heap.get? b = some o → b ∉ frs X.stack → ∃ o', B.get? b = some o') (c2 : ∀ b, H b ≠ none → ∃ o', B.get? b = some o') : Inv X pins σ H { s with heap := h' } := by
 have via : ∀ b o, s.heap.get? b = some o → (∃ o', B.get? b = some o') → h'.get? b = some o := fun b o e ⟨o', eb⟩ => by
  have := hB b o' eb
  rw [e] at this
  cases this
  exact hB' b o eb
 have slot : ∀ b o, X.s₀.heap.get? b = some o → X.H₀ b = none → b ∈ X.fs → b ∉ X.ex → ∃ sl, h'.get? b = some { o with slots := sl } := fun b o e n hb hx => by
  obtain ⟨sl, e1⟩ := I.base.slot b o e n hb hx
  obtain ⟨_, of, hof, hnf⟩ := I.ok.funs.mem hb
  rw [e] at hof
  cases hof
  obtain ⟨sl', e2⟩ := up b _ e1 hnf
  exact ⟨sl', e2⟩
 have cellK : ∀ c v, s.heap.IsCell c v → h'.IsCell c v := fun c v ⟨o, ho, hd⟩ => by
  obtain ⟨sl, e⟩ := up c o ho (fun vs q => by rw [hd] at q; cases q)
  exact ⟨_, e, hd⟩
 refine ⟨I.ok, I.os, I.bare, ⟨fun b o e n hb hx => ?_, slot, I.base.free, fun b o e hx => ?_, I.base.tups, I.base.frzs, I.base.tbls⟩, ?_, fun x c e => ?_, I.free, I.freeC, fun p hp => ?_, fun b u e => ?_, I.len⟩
 ·exact via b o (I.base.keep b o e n hb hx) (c1 b o (I1.base.keep b o e n hb hx) (I.notStack e hb))
 ·by_cases hb : b ∈ X.fs
  ·obtain ⟨sl, q⟩ := slot b o e (I.ok.frf b hb) hb hx
   exact ⟨_, q⟩
  ·obtain ⟨o1, a1⟩ := I1.base.there b o e hx
   obtain ⟨o', eb⟩ := c1 b o1 a1 (I.notStack e hb)
   exact ⟨o', hB' b o' eb⟩
 ·obtain ⟨m, hn, hl⟩ := I.loc
  refine ⟨m, up.ns hn, fun i x v e1 e2 e3 => ?_⟩
  obtain ⟨u, r, l⟩ := hl i x v e1 e2 e3
  refine ⟨u, r, ?_⟩
  rcases l with l | ⟨k, c, e, z⟩
  ·exact .inl l
  ·exact .inr ⟨k, c, e, cellK c _ z⟩
 ·obtain ⟨v, z⟩ := I.cell x c e
  exact ⟨v, cellK c v z⟩
 ·obtain ⟨e, n, ne, nf, d⟩ := I.pin p hp
  refine ⟨via p.1 p.2 e (c1 p.1 p.2 (I1.pin p hp).1 fun hm => ?_), n, ne, nf, d⟩
  rcases List.mem_cons.mp (I.stkSub _ hm) with z | z
  ·exact ne z
  ·exact nf z
 ·refine (I.hok b u e).stay (fun c v hc q => via c v q (c2 c ?_)) (fun _ q => q) fun _ _ q => q
  rcases hc with z | z
  ·rw [z, e]; simp
  ·rw [z]; simp
structure Arr (X : Cx) (pins : List (Addr × Obj)) (σ : St) (ea : Addr) (cls : Value) (H' : Hp) (s' : Shared) : Prop where
 inv : Inv X pins σ H' s'
 fly : ∃ (H1 : Hp) (s1 : Shared), Inv X pins σ H1 s1 ∧ Fly X.stack s1.heap H' ea cls s'.heap
theorem TU {E : XK} {e : Value} (I : Inv X pins σ H s) (h : CXE X.prog X.w X.stack H s E e s') : ∃ ea cls H', e = .ref ea ∧ Arr X pins σ ea cls H' s' ∧ E cls none H' := by
 obtain ⟨ea, cls, H', rfl, os, bare, un, hok, fl, hE⟩ := h
 exact ⟨ea, cls, H', rfl, ⟨I.call' (ch := []) os un hok bare (fun b z => absurd z (by simp)), H, s, I, fl⟩, hE⟩
end
section
variable {P : Program} {w : World} {K : PySem.W.Frag} {mg : Str → Option Value} {base : Heap} {N : List Str} {qual : Str} {scope : Scope} {f : Addr} {cd : Value} {A : Around} {outer : List Env} {s : Shared} {H : Hp} {E : XK}
 {pins : List (Addr × Obj)} {σ : St} {H1 H' : Hp} {s1 s' : Shared} {ea : Addr} {cls : Value} {h' : Heap} {args : List Value}
theorem WM (a : Arr (FM (CXE P w) P w K mg base N qual scope f cd A outer s H E) pins σ ea cls H' s') (hE : E cls none H') : (FM (CXE P w) P w K mg base N qual scope f cd A outer s H E).xe (.ref ea) s' := by
 obtain ⟨I, H1, s1, I1, B, a0, fl, c1, c2⟩ := a
 refine wpAny_leaves_onW (A := A.deeper (envOfC qual scope s.heap.objs.size f cd)) (env := envOfC qual scope s.heap.objs.size f cd) (outer := outer) I.ok.frames rfl fl fun h' fl' up => ?_
 have I2 := Inv.fly I1 I fl.1 fl'.1 up c1 c2
 refine ⟨ea, cls, H', rfl, I2.os, I2.bare, I2.base, I2.hok, ⟨B, a0, fl', fun b o e hb => ?_, c2⟩, hE⟩
 obtain ⟨o1, a1⟩ := I1.base.there b o e (fun z => absurd (show b ∈ ([] : List Addr) from z) (by simp))
 exact c1 b o1 a1 (I.notStack e hb)
theorem UF (I : Inv (FM (CXE P w) P w K mg base N qual scope f cd A outer s H E) pins σ H1 s1) (hx : Heap.MadeExcOf s1.heap h' ea cls args) (hE : E cls none H1) : (FM (CXE P w) P w K mg base N qual scope f cd A outer s H E).xe (.ref ea) { s1 with heap := h' } := by
 have hin : ∀ env ∈ (envOfC qual scope s.heap.objs.size f cd :: outer), ∀ b, env.frame = some b → b ∈ frs (envOfC qual scope s.heap.objs.size f cd :: outer) := fun env he b hb => List.mem_filterMap.mpr ⟨env, he, hb⟩
 have hfun : s1.heap.FunFrames (PySem.W.hideAll s1.heap (frs (envOfC qual scope s.heap.objs.size f cd :: outer))) (envOfC qual scope s.heap.objs.size f cd :: outer) := PySem.W.funFrames_hide I.stack hin
 have c1 : ∀ b o, s1.heap.get? b = some o → b ∉ frs (envOfC qual scope s.heap.objs.size f cd :: outer) → ∃ o', (PySem.W.hideAll s1.heap (frs (envOfC qual scope s.heap.objs.size f cd :: outer))).get? b = some o' := fun b o e hb => ⟨o, PySem.W.hideAll_get _ e hb⟩
 have c2 : ∀ b, H1 b ≠ none → ∃ o', (PySem.W.hideAll s1.heap (frs (envOfC qual scope s.heap.objs.size f cd :: outer))).get? b = some o' := fun b n => by
  cases q : H1 b with
  | none => exact absurd q n
  | some o =>
   obtain ⟨ob, e⟩ := (I.hok b o q).here
   exact ⟨ob, PySem.W.hideAll_get _ e fun z => by rw [I.stkFree b z] at q; cases q⟩
 refine wpAny_leaves_madeW (A := A.deeper (envOfC qual scope s.heap.objs.size f cd)) (s := { s1 with heap := h' }) (env := envOfC qual scope s.heap.objs.size f cd) (outer := outer) I.ok.frames rfl (fun b o q => PySem.W.of_hideAll _ q) hfun hx fun h'' t fl tup tn up => ?_
 have I' : Inv (FM (CXE P w) P w K mg base N qual scope f cd A outer s H E) pins σ H1 { s1 with heap := h' } := I.kept (t' := s1.toks) hx.keeps
 have I2 := Inv.fly (h' := h'') I I' (fun b o q => hx.keeps b o (PySem.W.of_hideAll _ q)) fl.1 up c1 c2
 refine ⟨ea, cls, H1, rfl, I2.os, I2.bare, I2.base, I2.hok, ⟨_, _, fl, fun b o e hb => ?_, c2⟩, hE⟩
 obtain ⟨o1, a1⟩ := I.base.there b o e (fun z => absurd (show b ∈ ([] : List Addr) from z) (by simp))
 exact c1 b o1 a1 (I.notStack e hb)
theorem Ki : Ie (CXE P w) (FM (CXE P w) P w K mg base N qual scope f cd A outer s H E) E := fun pins σ H s e s' I h => by
 obtain ⟨ea, cls, H', rfl, arr, hE⟩ := TU I h
 exact WM arr hE
theorem ownE : PassesOwn (model P w) (FM (CXE P w) P w K mg base N qual scope f cd A outer s H E).A (FM (CXE P w) P w K mg base N qual scope f cd A outer s H E).env (FM (CXE P w) P w K mg base N qual scope f cd A outer s H E).xe := PassesOwn.leaving (Q₁ := fun e s'' => CXE P w outer H s E e s'')
theorem Fun.okX {x qual : Str} {st : Stmt} {f : Addr} {fd : FuncData} {N ps : List Str} {k : Nat} {sp : Sp} (F : Fun K x qual st f fd) (S : AY N ps (AH st)) (len : ∀ vs H Q E, sp vs H Q E → vs.length = ps.length)
  (hbody : ∀ (cdv : Value) (A : Around) (outer : List Env) (s : Shared) (H : Hp) (vs : List V) (Q : VK) (E : XK), CT k (A.deeper (envOfC qual (AH st) s.heap.objs.size f cdv)) → sp vs H Q E →
   ∃ t, PSs (FM (CXE P w) P w K mg base N qual (AH st) f cdv A outer s H E) (BR st) t ∧ t { nx := fun _ H' => Q .non H', rt := Q } (start N vs) H) : Ay P w K mg base (CXE P w) (k + 1) f fd ps sp := by
 obtain ⟨oc, od, kV, doc, pm, an, cdv, ct, osl, rfl, lk, hcd⟩ := F.ex
 exact Q2 lk hcd S len fun A outer s H vs Q E hr hsp => hbody cdv A outer s H vs Q E hr hsp
end
structure DM (K : PySem.W.Frag) (C : Addr) (x qual : Str) (st : Stmt) (ps : List Str) (f : Addr) (fd : FuncData) : Prop where
 F : Fun K x qual st f fd
 mt : RM K C x f
 b : Binds K fd ps []
abbrev bmV : List Value := [.type "ValueError", .type "Exception", .type "BaseException", .type "object"]
abbrev HD (K : PySem.W.Frag) (C : Addr) : Prop := PySem.W.excIn K C bmV "ValueError.__new__" = true
theorem toArr {α : Type} {sl : Array α} {l : List α} (e : sl.toList = l) : sl = l.toArray := by rw [← e]
theorem HD.rec {K : PySem.W.Frag} {C : Addr} (q : HD K C) : ∃ (dd : Option Addr) (cd : ClassData) (bm : List Value) (k0 k1 k2 k3 k5 : Option Value),
  K.lookup C = some ⟨.type "type", dd, .cls cd, #[k0, k1, k2, k3, some (.builtin "ValueError.__new__"), k5]⟩ ∧ cd.mro = .ref C :: bm ∧ cd.hasDel = false ∧ PySem.W.tailIn K bmV bm = true ∧ PySem.W.nsOkIn K cd.ns = true ∧ PySem.W.nsIn K cd.ns "__init__" = some none := by
 simp only [HD, PySem.W.excIn] at q
 repeat' split at q
 all_goals first | exact absurd q Bool.false_ne_true | skip
 next dd cd sl hK mr ll C' bm k0 k1 k2 k3 n k5 e1 e2 =>
  rw [toArr e2] at hK
  simp only [Bool.and_eq_true] at q
  obtain ⟨⟨⟨⟨⟨h1, h2⟩, h3⟩, h4⟩, h5⟩, h6⟩ := q
  have h1 : C' = C := by simpa using h1
  have h2 : n = "ValueError.__new__" := by simpa using h2
  subst h1 h2
  exact ⟨dd, cd, bm, k0, k1, k2, k3, k5, hK, e1, by simpa using h3, h4, h5, by simpa using h6⟩
theorem HD.own {K : PySem.W.Frag} {C : Addr} {x : Str} {mg : Str → Option Value} {h : Heap} (q : HD K C) (X : K.In h) (hm : mg x = some (.ref C)) : OwnCls x C bmV "ValueError.__new__" mg h := by
 obtain ⟨dd, cd, bm, k0, k1, k2, k3, k5, hK, e1, e2, e3, e4, e5⟩ := q.rec
 have ns : h.Ns cd.ns (h.nsMap cd.ns) := .of_isNs (PySem.W.isNs_of_in X e4)
 have no : h.nsMap cd.ns "__init__" = none := PySem.W.nsMap_none_of_in X e4 e5
 have tl := PySem.W.tail_of_in X e3
 rcases cd with ⟨a1, a2, a3, a4, a5, a6, a7, a8, a9, a10, a11⟩
 simp only at e1 e2
 subst e1 e2
 exact ⟨hm, bm, a4, a1, a5, a2, a6, a7, a8, a9, a10, dd, k0, k1, k2, k3, k5, _, X _ _ hK, ns, no, tl⟩
def Ul (X : Cx) (E : XK) : Prop := ∀ (pins : List (Addr × Obj)) (σ : St) (H : Hp) (s : Shared) (h' : Heap) (ea : Addr) (cls : Value) (args : List Value), Inv X pins σ H s → Heap.MadeExcOf s.heap h' ea cls args → E cls none H → X.xe (.ref ea) { s with heap := h' }
theorem Jg {P : Program} {w : World} {K : PySem.W.Frag} {mg : Str → Option Value} {base : Heap} {N : List Str} {qual : Str} {scope : Scope} {f : Addr} {cd : Value} {A : Around} {outer : List Env} {s : Shared} {H : Hp} {E : XK} : Ul (FM (CXE P w) P w K mg base N qual scope f cd A outer s H E) E := fun _ _ _ _ _ _ _ _ I hx hE => UF I hx hE
section
variable {X : Cx} {E : XK} {x : Str} {C : Addr} {np cpos pos : Pos} {e : Expr} {es : List Expr} {t : TA}
def IF (C : Addr) (E : XK) (t : TA) : TS := fun _ σ H => t σ H fun vs H1 => vs.length ≤ sizeLine ∧ E (.ref C) none H1
theorem Cz (hp : Ul X E) (hc : X.calm = true) (q : HD X.K C) (hg : Gl X x) (hm : X.mg x = some (.ref C)) (ha : PA X (e :: es) t) (hdb : (x == ("__debug__" : Str)) = false := by decide)
  (he : starEach (e :: es) X.env = (false, eval e X.env) :: starEach es X.env := by rfl) (hpl : (backTo cpos (starEach es X.env)).any (·.1) = false := by rfl) :
  PS X (.Raise (some (.Call (.Name x np) (e :: es) [] cpos)) none pos) (IF C E t) := by
 intro pins s σ H D I h
 obtain ⟨tl, N, nm, q', bs, hdct, sn, sub, ab, col, dd, k0, k1, k2, k3, k5, mN, hC, hN, hni, T⟩ := (HD.own q I.mod.kin hm).obj
 refine wpAny_Raise_call_subT (C := C) (nm := nm) (q := q') (N := N) (bs := bs) (bm := tl) (hdct := hdct) (sn := sn) (sub := sub) (ab := ab) (col := col) (dd := dd) (k0 := k0) (k1 := k1) (k2 := k2) (k3 := k3) (k5 := k5)
  PySem.F.excBase_ValueError (mN := mN) (T.hasType PySem.F.excBase_ValueError.hasBase) (I.ok.hd hc) (by rw [he]; show (false || (backTo cpos (starEach es X.env)).any (·.1)) = false; rw [hpl]; rfl) hni (Jj I hg hm ⟨rfl, ?_⟩ hdb)
 have hs := ha cpos pins s σ H _ I h
 rw [he] at hs ⊢
 refine Calls.evalArgs_plain (thn hs fun us s1 ⟨vs, H1, I1, r, z, hE⟩ => ?_)
 exact ⟨rfl, by rw [← r.length]; exact z, I1.bk _ _ hC, hN.keeps I1.bk, T.keeps I1.bk, fun h' ea hx => hp pins σ H1 s1 h' ea (.ref C) us I1 hx hE⟩
end
def Pb (X : Cx) (N : Value → St → Hp → Prop) : Prop := ∀ (pins : List (Addr × Obj)) (σ : St) (H : Hp) (s : Shared) (e : Value) (s' : Shared), Inv X pins σ H s → CXE X.prog X.w X.stack H s (fun cls _ H' => N cls σ H') e s' → X.xe e s'
section
variable {X : Cx} {k : Nat} {f C : Addr} {fd : FuncData} {ps : List Str} {sp : Sp} {dvs : List V} {ds : List Value} {N : Value → St → Hp → Prop} {x m : Str} {p pos apos : Pos} {e o : Expr} {es : List Expr} {ta : TE} {t : TA}
theorem Ql {pins : List (Addr × Obj)} {σ : St} {H : Hp} {s : Shared} {Q : VK} {us : List Value} {vs : List V} (F : Ay X.prog X.w X.K X.mg X.base (CXE X.prog X.w) k f fd ps sp) (hr : CT k X.A) (hb : Binds X.K fd ps ds) (hd : Au dvs ds) (hx : Pb X N)
  (I : Inv X pins σ H s) (r : Au vs us) (h : sp (vs ++ dvs) H Q (fun cls _ H' => N cls σ H')) : wpAny (model X.prog X.w) X.A (call (.ref f) us) (EP X pins σ Q) X.xe s := by
 have r2 : Au (vs ++ dvs) (us ++ ds) := r.append hd
 have hl : (us ++ ds).length = ps.length := by rw [← r2.length]; exact F.len _ _ _ _ h
 refine wpAny_call (codeAny_mono (F.run X.A X.stack s H ⟨us, []⟩ (us ++ ds) (vs ++ dvs) Q _ hr I.env0 (hb s us I.kIn hl) r2 h) fun r s' hq => ?_)
 cases r with
 | error e => exact hx pins σ H s e s' I hq
 | ok fl =>
  cases fl with
  | ret u => exact I.after hq
  | next => exact False.elim hq
  | brk => exact False.elim hq
  | cont => exact False.elim hq
def N3 (C : Addr) (m : Str) (sp : Sp) (dvs : List V) (N : Value → St → Hp → Prop) (ta : TE) (t : TA) : TE := fun σ H Q => ta σ H fun x H1 => ∃ a dx fs, x = .ref a ∧ H1 a = some (.ins C dx fs) ∧ fs.lookup m = none ∧
 t σ H1 fun vs H2 => sp (x :: (vs ++ dvs)) H2 Q (fun cls _ H' => N cls σ H')
theorem GP {pl : Sem Bool} (he : PE X o ta) (c : Cls X.K C) (hm : RM X.K C m f) (F : Ay X.prog X.w X.K X.mg X.base (CXE X.prog X.w) k f fd ps sp) (hr : CT k X.A) (hb : Binds X.K fd ps ds) (hd : Au dvs ds) (hx : Pb X N) (ha : PA X (e :: es) t)
  (hst : starEach (e :: es) X.env = (false, eval e X.env) :: starEach es X.env := by rfl) (hpl : (backTo pos (starEach es X.env)).any (·.1) = false := by rfl)
  (ht : eval (.Call (.Attribute o m apos) (e :: es) [] pos) X.env = (do
   let ov ← eval o X.env
   standAt apos.atName
   let (f, first) ← holding [ov] (getMethod ov m pl)
   callWith pos f first (backTo pos (starEach (e :: es) X.env)) (backToKw pos (keywordEach [] X.env))) := by rfl) :
  PE X (.Call (.Attribute o m apos) (e :: es) [] pos) (N3 C m sp dvs N ta t) := by
 intro pins s σ H Q I h
 refine PySem.W.methodCall_KW (pl := pl) (thn (he pins s σ H _ I h) fun u s1 ⟨x, H1, I1, rx, a, dx, fs, ex, ea, l, q⟩ => ?_) ht
 subst ex
 obtain rfl : u = Value.ref a := rx
 refine IN I1 ea c hm l ?_
 refine PySem.W.callWith_K (first := [.ref a]) (h₀ := X.base) I.ok.mod.kin hm.kp (thn (ha pos pins s1 σ H1 _ I1 q) fun us s2 ⟨vs, H2, I2, r, q2⟩ => ⟨I2.kIn, ?_⟩) hst hpl
 exact Ql (us := .ref a :: us) (vs := .ref a :: vs) F hr hb hd hx I2 (.cons rfl r) q2
theorem NH {pl : Sem Bool} (he : PE X o ta) (c : Cls X.K C) (hm : RM X.K C m f) (F : Ay X.prog X.w X.K X.mg X.base (CXE X.prog X.w) k f fd ps sp) (hr : CT k X.A) (hb : Binds X.K fd ps ds) (hd : Au dvs ds) (hx : Pb X N)
  (ht : eval (.Call (.Attribute o m apos) [] [] pos) X.env = (do
   let ov ← eval o X.env
   standAt apos.atName
   let (f, first) ← holding [ov] (getMethod ov m pl)
   callWith pos f first (backTo pos (starEach [] X.env)) (backToKw pos (keywordEach [] X.env))) := by rfl) :
  PE X (.Call (.Attribute o m apos) [] [] pos) (N3 C m sp dvs N ta Kq) := by
 intro pins s σ H Q I h
 refine PySem.W.methodCall_KW (pl := pl) (thn (he pins s σ H _ I h) fun u s1 ⟨x, H1, I1, rx, a, dx, fs, ex, ea, l, q⟩ => ?_) ht
 subst ex
 obtain rfl : u = Value.ref a := rx
 refine IN I1 ea c hm l ?_
 exact PySem.W.callWith_K0 (first := [.ref a]) I1.kIn hm.kp (Ql (us := [.ref a]) (vs := [.ref a]) F hr hb hd hx I1 (.cons rfl .nil) q)
end
abbrev Cx.caught (X : Cx) (e : Value) (pn : List (Addr × Obj)) : Cx := { X with A := X.A.mark (some e), calm := false, pn := pn, xe := fun _ _ => False }
abbrev Cx.trying (X : Cx) (pn : List (Addr × Obj)) (E : Value → Shared → Prop) : Cx := { X with pn := pn, xe := E }
theorem Inv.caught {X : Cx} {pins : List (Addr × Obj)} {σ : St} {H : Hp} {s : Shared} (I : Inv X pins σ H s) (e : Value) : Inv (X.caught e (X.pn ++ pins)) [] σ H s :=
 ⟨⟨I.ok.mod, I.ok.kind, I.ok.glob, I.ok.blt, I.ok.above, I.ok.inj, I.ok.has, I.ok.cab, (fun z => nomatch z), I.ok.frames, I.ok.stk, I.ok.exf, I.ok.bs, I.ok.bsz, I.ok.noex, I.ok.exfs, I.ok.funs, I.ok.frf⟩, I.os, I.bare, I.base, I.loc, I.cell, I.free, I.freeC, fun p hp => I.pin p (by simpa using hp), I.hok, I.len⟩
theorem Inv.uncaught {X : Cx} {pins : List (Addr × Obj)} {σ : St} {H : Hp} {s : Shared} {e : Value} (ok : X.Ok) (I : Inv (X.caught e (X.pn ++ pins)) [] σ H s) : Inv X pins σ H s :=
 ⟨ok, I.os, I.bare, I.base, I.loc, I.cell, I.free, I.freeC, fun p hp => I.pin p (by simpa using hp), I.hok, I.len⟩
theorem Inv.trying {X : Cx} {pins : List (Addr × Obj)} {σ : St} {H : Hp} {s : Shared} (I : Inv X pins σ H s) (E : Value → Shared → Prop) : Inv (X.trying (X.pn ++ pins) E) [] σ H s :=
 ⟨⟨I.ok.mod, I.ok.kind, I.ok.glob, I.ok.blt, I.ok.above, I.ok.inj, I.ok.has, I.ok.cab, I.ok.hd, I.ok.frames, I.ok.stk, I.ok.exf, I.ok.bs, I.ok.bsz, I.ok.noex, I.ok.exfs, I.ok.funs, I.ok.frf⟩, I.os, I.bare, I.base, I.loc, I.cell, I.free, I.freeC, fun p hp => I.pin p (by simpa using hp), I.hok, I.len⟩
theorem Inv.tried {X : Cx} {pins more : List (Addr × Obj)} {σ : St} {H : Hp} {s : Shared} {E : Value → Shared → Prop} (ok : X.Ok) (I : Inv (X.trying (X.pn ++ pins) E) more σ H s) : Inv X pins σ H s :=
 ⟨ok, I.os, I.bare, I.base, I.loc, I.cell, I.free, I.freeC, fun p hp => I.pin p (List.mem_append_left _ hp), I.hok, I.len⟩
def tHs (K : PySem.W.Frag) : List (Value × TS) → Value → Ib → St → Hp → Prop
 | [], _, _, _, _ => False
 | (c, th) :: r, cls, D, σ, H => ∃ b, PySem.W.exmOne K cls c = some b ∧ if b = true then th D σ H else tHs K r cls D σ H
inductive PHs (X : Cx) : List ExceptHandler → List (Value × TS) → Prop
 | nil : PHs X [] []
 | cons {x : Str} {c : Value} {np pos : Pos} {b₀ : Stmt} {suite : List Stmt} {th : TS} {hs : List ExceptHandler} {ths : List (Value × TS)} (hg : Gl X x) (hm : X.mg x = some c) (hd : (x == ("__debug__" : Str)) = false)
   (hb : ∀ e pn, PSs (X.caught e pn) (b₀ :: suite) th) (r : PHs X hs ths) : PHs X (.ExceptHandler (some (.Name x np)) none (b₀ :: suite) pos :: hs) ((c, th) :: ths)
section
variable {X : Cx} {pins : List (Addr × Obj)} {D : Ib}
theorem SP.map {X Y : Cx} {pins pins' : List (Addr × Obj)} {D : Ib} {f : Flow} {s : Shared} (k : ∀ σ H, Inv X pins σ H s → Inv Y pins' σ H s) (h : SP X pins D f s) : SP Y pins' D f s := by
 cases f with
 | next => obtain ⟨σ, H, I, q⟩ := h; exact ⟨σ, H, k _ _ I, q⟩
 | brk => obtain ⟨σ, H, I, q⟩ := h; exact ⟨σ, H, k _ _ I, q⟩
 | cont => obtain ⟨σ, H, I, q⟩ := h; exact ⟨σ, H, k _ _ I, q⟩
 | ret u => obtain ⟨v, σ, H, I, r, q⟩ := h; exact ⟨v, σ, H, k _ _ I, r, q⟩
theorem L3 (hfr : X.env.frame = some X.env.locals) (hst : X.stack = X.env :: X.outer) {ea : Addr} {cls : Value} : ∀ {hs : List ExceptHandler} {ths : List (Value × TS)}, PHs X hs ths → ∀ {σ : St} {H : Hp} {s : Shared}, Arr X pins σ ea cls H s → tHs X.K ths cls D σ H →
  wpAny (model X.prog X.w) X.A (handleBy (.ref ea) X.env hs) (SP X pins D) X.xe s
 | _, _, .nil, _, _, _, _, h => h.elim
 | _, _, .cons (x := x) (c := c) (b₀ := b₀) (suite := suite) (th := th) hg hm hd hb r, σ, H, s, a, h => by
  obtain ⟨I, H1, s1, I1, B, a0, fl, c1, c2⟩ := a
  obtain ⟨b, hx, hq⟩ := h
  refine wpAny_handleBy_cons ?_ (by intro q; cases q)
  refine codeAny_handlers_test ?_
  have Ic := I.caught (.ref ea)
  refine Jj (X := X.caught (.ref ea) (X.pn ++ pins)) Ic hg hm ?_ hd
  obtain ⟨ob, hob, hc⟩ := fl.there
  have LT : PySem.W.Looks (model X.prog X.w) s.heap (typeOf (.ref ea)) cls := by
   subst hc
   exact (PySem.W.Looks.ld hob).andThen .now
  refine (PySem.W.exm_one I.kIn LT hx).here ?_
  cases b with
  | false =>
   exact L3 hfr hst r ⟨I, H1, s1, I1, B, a0, fl, c1, c2⟩ (by simpa using hq)
  | true =>
   rw [if_pos rfl] at hq
   refine codeAny_handlers_suite ?_
   refine lands_againW fl fun h6 fl6 up6 => ?_
   have I6 : Inv X pins σ H { s with heap := h6 } := Inv.fly I1 I fl.1 fl6.1 up6 c1 c2
   refine DW (thn (hb (.ref ea) (X.pn ++ pins) [] _ σ H D (I6.caught _) hq) fun f s2 h2 => ?_)
   exact SP.map (fun _ _ J => J.uncaught I.ok) h2
def lookX (X : Cx) (pins : List (Addr × Obj)) (D : Ib) (hs : List ExceptHandler) : Value → Shared → Prop := fun e s1 => wpAny (model X.prog X.w) X.A (noteFrame e X.env) (fun _ s2 => wpAny (model X.prog X.w) X.A (setFlight e none) (fun _ s3 =>
 wpAny (model X.prog X.w) X.A (handleBy e X.env hs) (SP X pins D) X.xe s3) X.xe s2) X.xe s1
def tTry (K : PySem.W.Frag) (tb : (Value → St → Hp → Prop) → TS) (ths : List (Value × TS)) : TS := fun D σ H => tb (fun cls σ' H' => tHs K ths cls D σ' H') D σ H
theorem Ta {body : List Stmt} {h₀ : ExceptHandler} {hs : List ExceptHandler} {ths : List (Value × TS)} {tb : (Value → St → Hp → Prop) → TS} {pos : Pos} (hfr : X.env.frame = some X.env.locals) (hst : X.stack = X.env :: X.outer)
  (hb : ∀ N pn xe, Pb (X.trying pn xe) N → PSs (X.trying pn xe) body (tb N)) (hh : PHs X (h₀ :: hs) ths) : PS X (.Try body (h₀ :: hs) [] [] pos) (tTry X.K tb ths) := by
 intro pins s σ H D I h
 refine wpAny_Try_except ?_
 have pass : Pb (X.trying (X.pn ++ pins) (lookX X pins D (h₀ :: hs))) (fun cls σ' H' => tHs X.K ths cls D σ' H') := fun pins' σ' H1 s1 e s' I' hx => by
  obtain ⟨ea, cls, H', rfl, a, hN⟩ := TU I' hx
  obtain ⟨J, H2, s2, J2, B, a0, fl, c1, c2⟩ := a
  have J' : Inv X pins σ' H' s' := J.tried I.ok
  have J2' : Inv X pins σ' H2 s2 := J2.tried I.ok
  have fl : Heap.FlyingW B X.stack ea cls a0 s'.heap := fl
  have c1 : ∀ b o, s2.heap.get? b = some o → b ∉ frs X.stack → ∃ o', B.get? b = some o' := c1
  rw [hst] at fl
  refine wpAny_looks_onW (A := X.A) (by rw [I.ok.frames, hst]) hfr fl fun h4 held4 up4 => ?_
  refine wpAny_landsW held4 fun h5 fl5 up5 => ?_
  have up := up4.trans up5
  have I5 : Inv X pins σ' H' { s' with heap := h5 } := Inv.fly J2' J' fl.1 fl5.1 up c1 c2
  refine L3 hfr hst hh ⟨I5, H2, s2, J2', B, a0, by rw [hst]; exact fl5, c1, c2⟩ hN
 refine wpAny_mono (hb _ _ _ pass [] s σ H D (I.trying _) h) (fun f s1 h1 => ?_) fun e s1 h1 => h1
 have h1 : SP X pins D f s1 := SP.map (fun _ _ J => J.tried I.ok) h1
 cases f with
 | next => exact wpAny_execs_nil h1
 | brk => exact h1
 | cont => exact h1
 | ret u => exact h1
end
end L2
set_option Elab.async false
set_option linter.all false
set_option maxRecDepth 100000
set_option maxHeartbeats 4000000
namespace L2
open PySem PySem.Spec PyProof.Rows
theorem Q4 : ∀ {us : List Value} {ns : List Int}, IntsAre us ns → Au (ns.map V.int) us
 | _, _, .nil => .nil
 | _, _, .cons n t r => .cons ⟨t, rfl⟩ (Q4 r)
section
variable {X : Cx}
theorem TC {pins : List (Addr × Obj)} {σ : St} {H : Hp} {s : Shared} {Q : VK} {ns ns' : List Int} {out : List Value} {h' : Heap} {D : Addr} {c tk : Nat} (I : Inv X pins σ H s) (hD : s.heap.objs.size ≤ D) (kp : ∀ b o, s.heap.get? b = some o → h'.get? b = some o)
  (hat : h'.get? D = some (seqObj "list" out.toArray c)) (a1 : IntsAre out ns') (a2 : ns'.Perm ns) (hl : ns.length < 64) (q : H D = none → AL H (upd H D (.lst (ns'.map V.int))) → upd H D (.lst (ns'.map V.int)) D = some (.lst (ns'.map V.int)) → Q (.ref D) (upd H D (.lst (ns'.map V.int)))) :
  EP X pins σ Q (.ref D) { s with heap := h', toks := tk } := by
 have hfr : H D = none := I.hok.fresh hD
 have hv := Q4 a1
 refine ⟨.ref D, _, I.laid (t' := tk) (o := .lst (ns'.map V.int)) kp hD ⟨by rw [List.length_map, a2.length_eq, PySem.sizeLine_eq]; omega, out, c, hv, hat⟩, rfl, q hfr (BD hfr) AO⟩
def OC (K : PySem.W.Frag) : List V → Hp → VK → Prop := fun xs H Q => ∃ d, xs = [.ref d] ∧ ∃ (kvs : List (Key × V)) (ks : List Int), H d = some (.dK kvs) ∧ kvs.map (·.1) = ks.map Sum.inl ∧ ks.length < 64 ∧
 ∀ (D : Addr) (H' : Hp) (ks' : List Int), H D = none → AL H H' → H' D = some (.lst (ks'.map V.int)) → ks'.Perm ks → ks'.Pairwise (· ≤ ·) → Q (.ref D) H'
theorem JA : ∀ {us : List Value} {ks : List Int}, us.length = ks.length → (∀ (j : Nat) (u : Value), us[j]? = some u → ∃ k : Int, ks[j]? = some k ∧ ∃ t, u = Value.int k t) → IntsAre us ks
 | [], [], _, _ => .nil
 | [], _ :: _, h, _ => by simp at h
 | _ :: _, [], h, _ => by simp at h
 | u :: us, k :: ks, h, hj => by
  obtain ⟨k', e1, t, e2⟩ := hj 0 u rfl
  have e1 : k = k' := by simpa using e1
  subst e1 e2
  exact .cons k t (JA (by simpa using h) fun j u hu => by simpa using hj (j + 1) u (by simpa using hu))
theorem Fz (hc : X.calm = true) : CA X (.builtin "sorted") (OC X.K) := by
 intro pins s σ H xs us Q I r h
 obtain ⟨d, rfl, kvs, ks, hd, hk, h64, q⟩ := h
 obtain ⟨u, rfl, ru⟩ := vals1 r
 cases ru
 obtain ⟨hz, lo, vs, kv, hD⟩ := I.hok d _ hd
 obtain ⟨ep, hat⟩ := hD.dictAt
 have lkv := Paired.length kv
 have lks : kvs.length = ks.length := by have := congrArg List.length hk; simpa using this
 refine Calls.call_function_entry kind_sorted plain_sorted entry_sorted (args_sorted1 _) ?_
 unfold Builtin.«sorted»
 refine wpAny_bind (m := checkCount "sorted" 1 1 _) (wpAny_pure ?_)
 refine wpAny_bind (PySem.W.kdu_collect (A := X.A.in1) (PySem.W.kdl_dict (knd := BG X.prog X.w) (kvs := vs) (ep := ep) lo) (I.ok.hd hc) hat (by rw [← lkv]; exact hz) fun h' tk acc hkk hacc => ?_)
 have hint : IntsAre acc.toList ks := by
  refine JA (by rw [Array.length_toList, hacc.1, ← lkv, lks]) fun j u hu => ?_
  obtain ⟨k, x, hx, hki⟩ := hacc.2 j u (by rw [← Array.getElem?_toList]; exact hu)
  have hj : j < kvs.length := by
   have := (List.getElem?_eq_some_iff.mp hx).1
   omega
  obtain ⟨p, hp, e1, e2⟩ := (show ∃ p, kvs[j]? = some p ∧ p.1 = k ∧ RelV p.2 x from by
   obtain ⟨p, h1, h2⟩ := TG.Paired.get kv hx
   exact ⟨p, h1, h2⟩)
  have hkj : (ks.map (Sum.inl : Int → Key))[j]? = some k := by rw [← hk, List.getElem?_map, hp]; exact congrArg some e1
  rw [List.getElem?_map] at hkj
  obtain ⟨i, hi, rfl⟩ := Option.map_eq_some_iff.mp hkj
  refine ⟨i, hi, ?_⟩
  have hki : Ln (Sum.inl i) u = true := hki
  rcases BI hki with ⟨i', t, e3, e4⟩ | ⟨y, t, e3, e4⟩
  ·injection e3 with e3
   subst e3
   exact ⟨t, e4⟩
  ·cases e3
 have hal : acc.toList.length = ks.length := by rw [Array.length_toList, hacc.1, ← lkv, lks]
 refine wpAny_bind (wpAny_newList ?_ (by rw [hal, PySem.sizeLine_eq]; omega))
 have hoL : (h'.push (seqObj "list" acc.toList.toArray 0)).get? h'.objs.size = some (seqObj "list" acc.toList.toArray 0) := Heap.get?_push_size _ rfl
 show wpAny _ _ _ _ _ { s with heap := h'.push (seqObj "list" acc.toList.toArray 0), toks := tk }
 refine wpAny_bind (wpAny_holding (wpAny_call_entry slot_list_sort ⟨_, hoL, rfl⟩ entry_list_sort (list_sort_tree hoL hint (by omega) fun out ns' a1 a2 a3 => ⟨_, rfl, ?_⟩) (args_list_sort _)))
 obtain ⟨e, he⟩ := sortedHeap_at (vs := acc.toList) (out := out) hoL
 have I' : Inv X pins σ H { s with heap := h', toks := tk } := I.kept hkk
 refine wpAny_pure ⟨_, rfl, TC (s := { s with heap := h', toks := tk }) (tk := tk) I' (Nat.le_refl _) (fun b o q' => ?_) (by rw [he]) a1 a2 h64 fun n1 n2 n3 => q _ _ _ n1 n2 n3 a2 a3⟩
 have q' : h'.get? b = some o := q'
 have hlt := Heap.lt_size q'
 refine (sortedHeap_old (Nat.ne_of_lt hlt) (by rw [size_push']; exact Nat.lt_succ_of_lt hlt)).trans ?_
 exact Heap.get?_push_of_some _ q'
end
end L2
set_option Elab.async false
set_option linter.all false
set_option maxRecDepth 100000
set_option maxHeartbeats 4000000
namespace L2
open PySem
theorem len0 {α : Type} {us : List α} (h : us.length = 0) : us = [] := List.length_eq_zero_iff.mp h
theorem Sr {α : Type} {us : List α} {n : Nat} (h : us.length = n + 1) : ∃ a r, us = a :: r ∧ r.length = n := by
 cases us with
 | nil => cases h
 | cons a r => exact ⟨a, r, rfl, Nat.succ.inj h⟩
theorem FN {α : Type} {us : List α} (h : us.length = 1) : ∃ a, us = [a] := by
 obtain ⟨a, r, rfl, h'⟩ := Sr h; cases len0 h'; exact ⟨a, rfl⟩
theorem EA {α : Type} {us : List α} (h : us.length = 2) : ∃ a b, us = [a, b] := by
 obtain ⟨a, r, rfl, h'⟩ := Sr h; obtain ⟨b, rfl⟩ := FN h'; exact ⟨a, b, rfl⟩
theorem O2 {α : Type} {us : List α} (h : us.length = 3) : ∃ a b c, us = [a, b, c] := by
 obtain ⟨a, r, rfl, h'⟩ := Sr h; obtain ⟨b, c, rfl⟩ := EA h'; exact ⟨a, b, c, rfl⟩
theorem QI {α : Type} {us : List α} (h : us.length = 4) : ∃ a b c d, us = [a, b, c, d] := by
 obtain ⟨a, r, rfl, h'⟩ := Sr h; obtain ⟨b, c, d, rfl⟩ := O2 h'; exact ⟨a, b, c, d, rfl⟩
theorem len5 {α : Type} {us : List α} (h : us.length = 5) : ∃ a b c d e, us = [a, b, c, d, e] := by
 obtain ⟨a, r, rfl, h'⟩ := Sr h; obtain ⟨b, c, d, e, rfl⟩ := QI h'; exact ⟨a, b, c, d, e, rfl⟩
end L2
namespace TG
open PySem L2
inductive Err where
 | nogate | taken | upside | bounds | full | deeds | nothing | badlist | few | size | badthrow | badrow
 deriving DecidableEq
def Kp (b P : Addr) (H H' : Hp) : Prop := ∀ a u, a ≠ b → a ≠ P → H a = some u → H' a = some u
theorem Kp.of {b P : Addr} {H H' : Hp} (s : AL H H') : Kp b P H H' := fun a u _ _ e => s a u e
theorem Kp.trans {b P : Addr} {H H1 H2 : Hp} (k : Kp b P H H1) (k' : Kp b P H1 H2) : Kp b P H H2 := fun a u h1 h2 e => k' a u h1 h2 (k a u h1 h2 e)
theorem Kp.upd {b P a : Addr} {H H1 : Hp} {o : HO} (k : Kp b P H H1) (h : a = b ∨ a = P) : Kp b P H (L2.upd H1 a o) := fun c u h1 h2 e => by
 have hc : c ≠ a := by rcases h with rfl | rfl <;> assumption
 rw [AK hc]
 exact k c u h1 h2 e
def TR (H : Hp) (l : Addr) (gs : List G) : Prop := ∃ as : List Addr, H l = some (.lst (as.map V.ref)) ∧ Az H as gs
structure Std (gs : List G) : Prop where
 asc : Asc gs
 ok : ∀ g ∈ gs, OkG g
 len : gs.length ≤ 40
theorem Rv {gs : List G} (h : Asc gs) : (gs.map G.p).Nodup := by
 unfold List.Nodup
 rw [List.pairwise_map]
 exact h.imp fun {a b} h z => by omega
theorem Std.nd {gs : List G} (h : Std gs) : (gs.map G.p).Nodup := Rv h.asc
structure Bch (C : Addr) (H : Hp) (b S P : Addr) (ow : List Addr) (gs : List G) (past : List (List G)) : Prop where
 at_ : ∃ dx, H b = some (.ins C dx [("standing", .ref S), ("past", .ref P)])
 st : TR H S gs
 pa : ∃ ps : List Addr, H P = some (.lst (ps.map V.ref)) ∧ Paired (TR H) ps past ∧ (∀ p ∈ ps, p ∈ ow ∧ p ≠ P)
 sp : S ≠ P
 so : S ∈ ow
 po : P ∈ ow
 std : Std gs
 stds : ∀ x ∈ past, Std x
 len : past.length ≤ 300
 lv : ∀ a ∈ ow, ∃ xs, H a = some (.lst xs)
theorem Az.keep {H H' : Hp} {as : List Addr} {gs : List G} (h : Az H as gs) (k : ∀ a xs, H a = some (.tup xs) → H' a = some (.tup xs)) : Az H' as gs := by
 unfold Az at *
 induction h with
 | nil => exact .nil
 | cons e _ ih => exact .cons (k _ _ e) ih
theorem TR.keep {H H' : Hp} {l : Addr} {gs : List G} (h : TR H l gs) (kl : ∀ u, H l = some u → H' l = some u) (k : ∀ a xs, H a = some (.tup xs) → H' a = some (.tup xs)) : TR H' l gs := by
 obtain ⟨as, e, g⟩ := h
 exact ⟨as, kl _ e, g.keep k⟩
theorem Paired.keepM {α β : Type} {F F' : α → β → Prop} : ∀ {xs : List α} {ys : List β}, Paired F xs ys → (∀ x y, x ∈ xs → F x y → F' x y) → Paired F' xs ys
 | _, _, .nil, _ => .nil
 | _, _, .cons e r, k => .cons (k _ _ List.mem_cons_self e) (Paired.keepM r fun x y h => k x y (List.mem_cons_of_mem _ h))
theorem Paired.takeP {α β : Type} {F : α → β → Prop} : ∀ {xs : List α} {ys : List β}, Paired F xs ys → ∀ n, Paired F (xs.take n) (ys.take n)
 | _, _, .nil, n => by simp only [List.take_nil]; exact .nil
 | _, _, .cons e r, 0 => .nil
 | _, _, .cons e r, n + 1 => .cons e (Paired.takeP r n)
theorem Bch.keep {C : Addr} {H H' : Hp} {b S P : Addr} {ow : List Addr} {gs : List G} {past : List (List G)} (h : Bch C H b S P ow gs past) (k : ∀ a u, (a = b ∨ a ∈ ow ∨ ∃ xs, u = .tup xs) → H a = some u → H' a = some u) : Bch C H' b S P ow gs past := by
 have kt : ∀ a xs, H a = some (.tup xs) → H' a = some (.tup xs) := fun a xs e => k a _ (.inr (.inr ⟨xs, rfl⟩)) e
 obtain ⟨dx, e⟩ := h.at_
 obtain ⟨ps, e2, pr, hm⟩ := h.pa
 exact ⟨⟨dx, k _ _ (.inl rfl) e⟩, h.st.keep (fun u e => k _ u (.inr (.inl h.so)) e) kt, ⟨ps, k _ _ (.inr (.inl h.po)) e2, Paired.keepM pr fun x y hx q => q.keep (fun u e => k _ u (.inr (.inl (hm x hx).1)) e) kt, hm⟩, h.sp, h.so, h.po, h.std, h.stds, h.len, fun a ha => (h.lv a ha).imp fun xs e => k a _ (.inr (.inl ha)) e⟩
theorem Bch.same {C : Addr} {H H' : Hp} {b S P : Addr} {ow : List Addr} {gs : List G} {past : List (List G)} (h : Bch C H b S P ow gs past) (s : AL H H') : Bch C H' b S P ow gs past := h.keep fun a u _ e => s a u e
def Dd (gs : List G) (p : Int) (o : List G) : List G := (gs.filter fun g => decide (g.p < p)) ++ (o ++ (gs.filter fun g => decide (p < g.p)))
theorem Pm {gs : List G} {p : Int} {o : List G} (h : Asc gs) (ho : Asc o) (hp : ∀ g ∈ o, g.p = p) : Asc (Dd gs p o) := by
 unfold Dd Asc at *
 refine List.pairwise_append.mpr ⟨h.filter _, List.pairwise_append.mpr ⟨ho, h.filter _, fun a ha b hb => ?_⟩, fun a ha b hb => ?_⟩
 ·have := of_decide_eq_true (List.mem_filter.mp hb).2
  rw [hp a ha]; exact this
 ·have h1 := of_decide_eq_true (List.mem_filter.mp ha).2
  rcases List.mem_append.mp hb with z | z
  ·rw [hp b z]; exact h1
  ·have := of_decide_eq_true (List.mem_filter.mp z).2
   omega
theorem Gv {gs : List G} {p : Int} {o : List G} {g : G} : g ∈ Dd gs p o ↔ (g ∈ gs ∧ g.p ≠ p) ∨ g ∈ o := by
 unfold Dd
 simp only [List.mem_append, List.mem_filter, decide_eq_true_eq]
 constructor
 ·rintro (⟨h, q⟩ | h | ⟨h, q⟩)
  ·exact .inl ⟨h, by omega⟩
  ·exact .inr h
  ·exact .inl ⟨h, by omega⟩
 ·rintro (⟨h, q⟩ | h)
  ·rcases Int.lt_or_gt_of_ne q with z | z
   ·exact .inl ⟨h, z⟩
   ·exact .inr (.inr ⟨h, z⟩)
  ·exact .inr (.inl h)
theorem FW {gs : List G} {p : Int} {o : List G} : (Dd gs p o).Perm ((gs.filter fun g => !decide (g.p = p)) ++ o) := by
 unfold Dd
 have h : ((gs.filter fun g => decide (g.p < p)) ++ (gs.filter fun g => decide (p < g.p))).Perm (gs.filter fun g => !decide (g.p = p)) := by
  induction gs with
  | nil => exact List.Perm.refl _
  | cons a gs ih =>
   simp only [List.filter_cons]
   rcases Int.lt_trichotomy a.p p with z | z | z
   ·simp only [decide_eq_true z, show decide (p < a.p) = false from decide_eq_false (by omega), show decide (a.p = p) = false from decide_eq_false (by omega), if_true, Bool.not_false, Bool.false_eq_true, if_false, List.cons_append]
    exact ih.cons _
   ·simp only [show decide (a.p < p) = false from decide_eq_false (by omega), show decide (p < a.p) = false from decide_eq_false (by omega), decide_eq_true z, Bool.not_true, Bool.false_eq_true, if_false]
    exact ih
   ·simp only [show decide (a.p < p) = false from decide_eq_false (by omega), decide_eq_true z, show decide (a.p = p) = false from decide_eq_false (by omega), if_true, Bool.not_false, Bool.false_eq_true, if_false]
    exact List.perm_middle.trans (ih.cons _)
 exact (List.perm_append_comm_assoc _ _ _).trans ((h.append_left o).trans List.perm_append_comm)
theorem K6 {gs : List G} {p : Int} {o : List G} : (Dd gs p o).length = (gs.filter fun g => !decide (g.p = p)).length + o.length := by
 rw [FW.length_eq, List.length_append]
abbrev Aw (gs : List G) : List Int := gs.map G.p
def A9 (gs : List G) (p : Int) : Option G := gs.find? fun g => decide (g.p = p)
theorem Ce {gs : List G} {p : Int} {g : G} (h : A9 gs p = some g) : g ∈ gs ∧ g.p = p := by
 have h1 := List.mem_of_find?_eq_some h
 have h2 := List.find?_some h
 exact ⟨h1, of_decide_eq_true h2⟩
theorem DX {gs : List G} {p : Int} : A9 gs p = none ↔ p ∉ Aw gs := by
 unfold A9 Aw
 rw [List.find?_eq_none]
 constructor
 ·intro h z
  obtain ⟨g, hg, e⟩ := List.mem_map.mp z
  exact h g hg (decide_eq_true e)
 ·intro h g hg z
  exact h (List.mem_map.mpr ⟨g, hg, of_decide_eq_true z⟩)
theorem Nc {gs : List G} (ha : Asc gs) {g : G} (hg : g ∈ gs) : A9 gs g.p = some g := by
 cases h : A9 gs g.p with
 | none => exact absurd (List.mem_map.mpr ⟨g, hg, rfl⟩) (DX.mp h)
 | some x =>
  obtain ⟨h1, h2⟩ := Ce h
  rw [Io ha h1 hg h2]
abbrev InB (x : Int) : Prop := -1000 ≤ x ∧ x ≤ 1000
def Dr (p f h : Int) : Option Err := if h < f then some .upside else if InB p ∧ InB f ∧ InB h then none else some .bounds
theorem Fh {p f h : Int} : Dr p f h = none ↔ OkG ⟨p, f, h⟩ := by
 unfold Dr
 constructor
 ·intro z
  split at z
  ·cases z
  ·split at z
   ·rename_i h1 h2
    obtain ⟨⟨a, b⟩, ⟨c, d⟩, e, f1⟩ := h2
    exact ⟨a, b, c, by show f ≤ h; omega, f1⟩
   ·cases z
 ·rintro ⟨a, b, c, d, e⟩
  rw [if_neg (by simp only at *; omega), if_pos (by simp only at *; unfold InB; omega)]
def IM (gs : List G) (past : List (List G)) (p f h : Int) : Option Err :=
 if p ∈ Aw gs then some .taken else (Dr p f h).or (if 40 ≤ gs.length then some .full else if 300 ≤ past.length then some .deeds else none)
def Df (past : List (List G)) : Option Err := if 300 ≤ past.length then some .deeds else none
def GG (gs : List G) (past : List (List G)) (p : Int) : Option Err := if p ∈ Aw gs then Df past else some .nogate
def Dx (gs : List G) (past : List (List G)) (p x y : Int) : Option Err := match A9 gs p with
 | none => some .nogate
 | some g => (Dr p (g.f + x) (g.h + y)).or (Df past)
def JY (past : List (List G)) (n : Int) : Option Err := if n < 1 then some .bounds else if past.length < n then some .nothing else none
theorem Std.put {gs : List G} {p f h : Int} (s : Std gs) (ok : OkG ⟨p, f, h⟩) (hl : (gs.filter fun g => !decide (g.p = p)).length < 40) : Std (Dd gs p [⟨p, f, h⟩]) where
 asc := Pm s.asc (List.pairwise_singleton ..) fun g hg => by rw [List.mem_singleton.mp hg]
 ok := fun g hg => by
  rcases Gv.mp hg with z | z
  ·exact s.ok g z.1
  ·rw [List.mem_singleton.mp z]; exact ok
 len := by rw [K6]; simp only [List.length_singleton]; omega
theorem Std.take {gs : List G} {p : Int} (s : Std gs) : Std (Dd gs p []) where
 asc := Pm s.asc List.Pairwise.nil fun g hg => absurd hg (by simp)
 ok := fun g hg => by
  rcases Gv.mp hg with z | z
  ·exact s.ok g z.1
  ·exact absurd z (by simp)
 len := by
  rw [K6]
  have := List.length_filter_le (fun g : G => !decide (g.p = p)) gs
  have := s.len
  simp only [List.length_nil]; omega
theorem XR {gs : List G} {g : G} (hg : g ∈ gs) : (gs.filter fun x => !decide (x.p = g.p)).length < gs.length :=
 List.length_filter_lt_length_iff_exists.mpr ⟨g, hg, by simp⟩
theorem PM {gs : List G} {p : Int} (hp : p ∉ Aw gs) : (gs.filter fun x => !decide (x.p = p)) = gs :=
 List.filter_eq_self.mpr fun g hg => by
  rw [decide_eq_false (fun z => hp (List.mem_map.mpr ⟨g, hg, z⟩))]; rfl
theorem Bch.off {C : Addr} {H : Hp} {b S P : Addr} {ow : List Addr} {gs : List G} {past : List (List G)} (h : Bch C H b S P ow gs past) {a : Addr} (n : H a = none) : a ∉ ow := fun z => by
 obtain ⟨_, e⟩ := h.lv a z
 rw [n] at e; cases e
theorem Bch.nep {C : Addr} {H : Hp} {b S P : Addr} {ow : List Addr} {gs : List G} {past : List (List G)} (h : Bch C H b S P ow gs past) {a : Addr} {u : HO} (e : H a = some u) (hu : ∀ xs, u ≠ .lst xs) : a ≠ P := fun z => by
 obtain ⟨_, e', _⟩ := h.pa
 rw [z, e'] at e; exact hu _ (Option.some.inj e).symm
theorem Bch.neb {C : Addr} {H : Hp} {b S P : Addr} {ow : List Addr} {gs : List G} {past : List (List G)} (h : Bch C H b S P ow gs past) {a : Addr} {u : HO} (e : H a = some u) (hu : ∀ C dx fs, u ≠ .ins C dx fs) : a ≠ b := fun z => by
 obtain ⟨_, e'⟩ := h.at_
 rw [z, e'] at e; exact hu _ _ _ (Option.some.inj e).symm
theorem Bch.tup {C : Addr} {H H' : Hp} {b S P : Addr} {ow : List Addr} {gs : List G} {past : List (List G)} (h : Bch C H b S P ow gs past) (k : Kp b P H H') {a : Addr} {xs : List V} (e : H a = some (.tup xs)) : H' a = some (.tup xs) :=
 k a _ (h.neb e fun _ _ _ z => by cases z) (h.nep e fun _ z => by cases z) e
theorem Bch.dk {C : Addr} {H H' : Hp} {b S P : Addr} {ow : List Addr} {gs : List G} {past : List (List G)} (h : Bch C H b S P ow gs past) (k : Kp b P H H') {a : Addr} {xs : List (Key × V)} (e : H a = some (.dK xs)) : H' a = some (.dK xs) :=
 k a _ (h.neb e fun _ _ _ z => by cases z) (h.nep e fun _ z => by cases z) e
theorem Bch.lst {C : Addr} {H H' : Hp} {b S P : Addr} {ow : List Addr} {gs : List G} {past : List (List G)} (h : Bch C H b S P ow gs past) (k : Kp b P H H') {a : Addr} {xs : List V} (e : H a = some (.lst xs)) (ha : a ∉ ow) : H' a = some (.lst xs) :=
 k a _ (h.neb e fun _ _ _ z => by cases z) (fun z => ha (z ▸ h.po)) e
theorem QF {ow ow' : List Addr} {H : Hp} (o : ∀ a ∈ ow', a ∈ ow ∨ H a = none) {a : Addr} {u : HO} (e : H a = some u) (ha : a ∉ ow) : a ∉ ow' := fun z => by
 rcases o a z with z | z
 ·exact ha z
 ·rw [z] at e; cases e
theorem Qq {p : Int} : ∀ l : List Int, inV (.int p) (l.map V.int) = decide (p ∈ l)
 | [] => rfl
 | a :: l => by
  show (eqV (.int a) (.int p) || inV (.int p) (l.map V.int)) = _
  rw [Qq l]
  have e : eqV (.int a) (.int p) = decide (p = a) := by
   show decide (a = p) = decide (p = a)
   exact decide_eq_decide.mpr eq_comm
  rw [e, ← Bool.decide_or]
  exact decide_eq_decide.mpr List.mem_cons.symm
theorem TZ (l : List Int) : (l.map V.int).all IC = true := by
 rw [List.all_eq_true]
 intro x hx
 obtain ⟨i, _, rfl⟩ := List.mem_map.mp hx
 rfl
theorem SG {gs : List G} : (gs.filter fun _ => true) = gs := List.filter_eq_self.mpr fun _ _ => rfl
end TG
set_option Elab.async false
set_option linter.all false
set_option maxRecDepth 100000
set_option maxHeartbeats 4000000
namespace L2
open PySem PySem.Spec PyProof.Rows
section
variable {prog : Program} {w : World} {A : Around} {E : Value → Shared → Prop} {s : Shared}
theorem Na {it t : Addr} {items : Array Value} (hne : t ≠ it) : ∀ (n i : Nat) (s : Shared) (Q : List Value → Shared → Prop), s.heap.IsListIter it t i → s.heap.IsList t items → i + n ≤ items.size →
  (∀ h', h'.IsListIter it t (i + n) → Heap.SameBut it s.heap h' → Q ((items.toList.drop i).take n) { s with heap := h' }) → wpAny (model prog w) A (draw (.ref it) n) Q E s
 | 0, i, s, Q, hit, _, _, hQ => by
  show wpAny _ _ (pure []) Q E s
  exact wpAny_pure (by simpa using hQ s.heap hit (Heap.SameBut.refl ..))
 | n + 1, i, s, Q, hit, ht, hle, hQ => by
  have hlt : i < items.size := by omega
  show wpAny _ _ (pyNext (.ref it) >>= _) Q E s
  refine wpAny_bind (wpAny_pyNext_list_item hit ht (x := items[i]) (by simp [hlt]) fun h₁ hit₁ hs₁ => ?_)
  refine wpAny_bind (wpAny_holding (Na hne n (i + 1) _ _ hit₁ (ht.at fun o e => (hs₁.2 t hne).trans e) (by omega) fun h₂ hit₂ hs₂ => wpAny_pure ?_))
  have hd : items.toList.drop i = items[i] :: items.toList.drop (i + 1) := by simp [List.drop_eq_getElem_cons, hlt]
  have := hQ h₂ (by rw [show i + (n + 1) = i + 1 + n by omega]; exact hit₂) (hs₁.trans hs₂)
  rw [hd, List.take_succ_cons] at this
  exact this
theorem KN {t : Addr} {items : Array Value} {Q : List Value → Shared → Prop} (hh : A.handled = none) (ht : s.heap.IsList t items)
  (hQ : ∀ h', Heap.ExtBut s.heap.objs.size s.heap h' → Q items.toList { s with heap := h' }) : wpAny (model prog w) A (unpackItems (.ref t) items.size none) Q E s := by
 have hlt : t ≠ s.heap.objs.size := by obtain ⟨o, ho, _⟩ := ht; exact Nat.ne_of_lt (Heap.lt_size ho)
 unfold unpackItems
 refine wpAny_bind ?_
 ·unfold notIterableAtAll
  refine wpAny_bind (wpAny_specialOf ht.typeIs slot_list_iter.lookup ?_)
  refine wpAny_pure ?_
  simp only [Bool.false_eq_true, if_false]
  refine wpAny_bind (wpAny_holding (wpAny_pyIter_list ht ?_))
  refine wpAny_bind (wpAny_holding (Na hlt items.size 0 _ _ ⟨_, Heap.get?_push_size _ rfl, rfl, rfl⟩ (ht.at fun o e => Heap.get?_push_of_some _ e) (by omega) fun h₁ hit₁ hs₁ => ?_))
  have hall : List.take items.size (List.drop 0 items.toList) = items.toList := by
   rw [List.drop_zero]; exact List.take_of_length_le (by simp)
  rw [hall]
  rw [if_neg (by simp)]
  have ht₁ : h₁.IsList t items := ht.at fun o e => (hs₁.2 t hlt).trans (Heap.get?_push_of_some _ e)
  refine wpAny_bind (wpAny_holding (wpAny_pyNext_list_end hh hit₁ ht₁ (by simp) fun h₂ he₂ => ?_))
  simp only [Option.isSome_none, Bool.false_eq_true, if_false]
  refine wpAny_pure (hQ h₂ fun b o hb e => he₂ b o hb (hs₁.extBut b o hb (Heap.get?_push_of_some _ e)))
theorem Jr {env : Env} {elts : List Expr} {x1} {pos : Pos} {t : Addr} {items : Array Value} {Q : Unit → Shared → Prop} (hh : A.handled = none) (ht : s.heap.IsList t items)
  (hn : (assignEach elts env).length = items.size) (hstar : (assignEach elts env).findIdx? (·.1) = none)
  (h : ∀ h', Heap.ExtBut s.heap.objs.size s.heap h' → wpAny (model prog w) A (assignInOrder ((assignEach elts env).map (·.2)) items.toList) Q E { s with heap := h' }) :
  wpAny (model prog w) A (assign (.Tuple elts x1 pos) env (.ref t)) Q E s := by
 rw [assign_Tuple]
 refine wpAny_bind (wpAny_standAt ?_)
 unfold unpack
 rw [hn, hstar]
 exact wpAny_bind (wpAny_holding (KN hh ht h))
end
section
variable {X : Cx} {pos : Pos}
def Ml (K : PySem.W.Frag) (n : Nat) (t : TGs) : TG := fun v σ H Q => ∃ a xs, v = .ref a ∧ SqL K H a xs ∧ xs.length = n ∧ t xs σ H Q
theorem S6 {es : List Expr} {k : Nat} {t : TGs} {n : Nat} (hc : X.calm = true) (h : PGs X es t)
  (hn : (assignEach es X.env).length = n := by rfl) (hst : (assignEach es X.env).findIdx? (·.1) = none := by rfl) : PG X (.Tuple es k pos) (Ml X.K n t) := by
 intro pins s σ H v u Q I r hw
 obtain ⟨a, xs, e1, hq, hl, hw⟩ := hw
 subst e1
 cases r
 obtain ⟨its, rv, ht, hz⟩ := I.list hq
 refine Jr (I.ok.hd hc) ht.isList (by simp [hn, ← hl, rv.length]) hst fun h' hx => ?_
 have I1 : Inv X pins σ H { s with heap := h' } := I.kept (t' := s.toks) fun b o e => hx b o (Nat.ne_of_lt (Heap.lt_size e)) e
 exact h pins _ σ H xs _ Q I1 (by simpa using rv) hw
def Qy : V → List V → Hp → VK → Prop := fun x vs H Q => ∃ a kvs, x = .ref a ∧ vs = [] ∧ H a = some (.dK kvs) ∧ Q .non (upd H a (.dK []))
theorem Rt : MtR X "dict.clear" Qy := by
 intro pins s σ H x vs v us Q I rx rv h
 obtain ⟨a, kvs, rfl, rfl, e, q⟩ := h
 cases rx
 cases rv
 obtain ⟨z, hd, ws, rel, dd⟩ := Ni I.hok e
 refine call_meetsIn PySem.F.slot_dict_clear dd.typeIs PySem.F.entry_dict_clear (PySem.F.args_dict_clear_1 _) (meets_dict_clear (BG X.prog X.w) a) ⟨ws, dd, by rw [← Paired.length rel]; exact z, fun h' dd' hs => ?_⟩
 have he : ∃ q, h'.get? a = some q := let ⟨q, _, _, hq, _⟩ := dd'; ⟨q, hq⟩
 exact ⟨.non, _, Iy I (by rw [e]; exact True.intro) hs he (OO (Nat.zero_le _) hd .nil dd'), rfl, q⟩
def Uc : V → List V → Hp → VK → Prop := fun x vs H Q => ∃ a b more, x = .ref a ∧ vs = [.ref b] ∧ a ≠ b ∧ H a = some (.dK []) ∧ H b = some (.dK more) ∧ Q .non (upd H a (.dK more))
theorem T5 : MtR X "dict.update" Uc := by
 intro pins s σ H x vs v us Q I rx rv h
 obtain ⟨a, b, more, rfl, rfl, hab, e, e2, q⟩ := h
 cases rx
 obtain ⟨u, rfl, ru⟩ := vals1 rv
 cases ru
 obtain ⟨z, hd, ws, rel, dd⟩ := Ni I.hok e
 obtain ⟨z2, hd2, ws2, rel2, dd2⟩ := Ni I.hok e2
 cases rel
 have hn : (ws2.map (·.1)).Nodup := let ⟨_, _, _, _, _, _, _, _, hn⟩ := dd2; hn
 refine call_meetsIn PySem.F.slot_dict_update dd.typeIs PySem.F.entry_dict_update (PySem.F.args_dict_update_2 _ _) (meets_dict_update (BG X.prog X.w) a b hab hd2) ⟨[], ws2, dd, dd2, by rw [← Paired.length rel2, List.length_nil, Nat.zero_add]; exact z2, fun h' dd' _ hs => ?_⟩
 rw [merged_nil_of_nodup ws2 hn] at dd'
 have he : ∃ q, h'.get? a = some q := let ⟨q, _, _, hq, _⟩ := dd'; ⟨q, hq⟩
 exact ⟨.non, _, Iy I (by rw [e]; exact True.intro) hs he (OO z2 hd rel2 dd'), rfl, q⟩
def Et : List V → Hp → VK → Prop := fun vs H Q => ∃ b more, vs = [.ref b] ∧ H b = some (.dK more) ∧ ∀ p H', H p = none → AL H H' → H' p = some (.dK more) → Q (.ref p) H'
theorem P8 : CA X (.type "dict") Et := by
 intro pins s σ H xs us Q I r h
 obtain ⟨b, more, rfl, e2, q⟩ := h
 obtain ⟨u, rfl, rx⟩ := vals1 r
 cases rx
 obtain ⟨z2, hd2, ws2, rel2, dd2⟩ := Ni I.hok e2
 refine kt_call_dict hd2 dd2 (by rw [← Paired.length rel2]; exact z2) fun h' dd' hs => ?_
 have nf : H s.heap.objs.size = none := I.hok.fresh (Nat.le_refl _)
 have hsys : (s.heap.objs.size == sysModules) = false := beq_false_of_ne (Nat.ne_of_gt I.big)
 refine ⟨.ref s.heap.objs.size, upd H s.heap.objs.size (.dK more), I.laid (t' := s.toks) (fun c o e => (hs.2 c (Nat.ne_of_lt (Heap.lt_size e))).trans (Heap.get?_push_of_some _ e)) (Nat.le_refl _) ?_, rfl, q _ _ nf (BD nf) AO⟩
 exact ⟨z2, hsys, ws2, rel2, dd'⟩
end
theorem UZ : bootBuiltins "dict" = some (.type "dict") := by decide +kernel
structure Wc (K : PySem.W.Frag) (x qual : Str) (st : Stmt) (f : Addr) (fd : FuncData) : Prop where
 ex : ∃ (dV oc : Value) (od : Option Addr) (kV doc pm : Value) (an : Option Addr) (cdv ct : Value) (osl : Array (Option Value)),
  fd = PySem.W.fnOf x qual (Bq st) (BR st) (AH st) dV kV doc pm an cdv ct ∧ K.lookup f = some ⟨oc, od, .func fd, osl⟩ ∧ PySem.W.codeIn K cdv qual = true
 kp : PySem.W.keepIn K (.ref f) = true
theorem Wc.okX {P : Program} {w : World} {K : PySem.W.Frag} {mg : Str → Option Value} {base : Heap} {x qual : Str} {st : Stmt} {f : Addr} {fd : FuncData} {N ps : List Str} {k : Nat} {sp : Sp} (F : Wc K x qual st f fd) (S : AY N ps (AH st)) (len : ∀ vs H Q E, sp vs H Q E → vs.length = ps.length)
  (hbody : ∀ (cdv : Value) (A : Around) (outer : List Env) (s : Shared) (H : Hp) (vs : List V) (Q : VK) (E : XK), CT k (A.deeper (envOfC qual (AH st) s.heap.objs.size f cdv)) → sp vs H Q E →
   ∃ t, PSs (FM (CXE P w) P w K mg base N qual (AH st) f cdv A outer s H E) (BR st) t ∧ t { nx := fun _ H' => Q .non H', rt := Q } (start N vs) H) : Ay P w K mg base (CXE P w) (k + 1) f fd ps sp := by
 obtain ⟨dV, oc, od, kV, doc, pm, an, cdv, ct, osl, rfl, lk, hcd⟩ := F.ex
 exact Q2 lk hcd S len fun A outer s H vs Q E hr hsp => hbody cdv A outer s H vs Q E hr hsp
structure DMD (K : PySem.W.Frag) (C : Addr) (x qual : Str) (st : Stmt) (ps : List Str) (f : Addr) (fd : FuncData) (dvs : List V) : Prop where
 F : Wc K x qual st f fd
 mt : RM K C x f
 b : Binds K fd ps []
 bd : ∃ ds, Au dvs ds ∧ Binds K fd ps ds
end L2
namespace TG
open PySem L2
structure BB (H : Hp) (D : Addr) (gs : List G) : Prop where
 at_ : ∃ (kvs : List (Key × V)) (ks : List Int), H D = some (.dK kvs) ∧ kvs.map (·.1) = ks.map Sum.inl ∧ ks.Perm (Aw gs) ∧ ∀ g ∈ gs, ∃ a, Bz kvs (.inl g.p) = some (.ref a) ∧ H a = some (.tup [.int g.f, .int g.h])
theorem BB.keep {H H' : Hp} {D : Addr} {gs : List G} (h : BB H D gs) (kd : ∀ kvs, H D = some (.dK kvs) → H' D = some (.dK kvs)) (kt : ∀ a xs, H a = some (.tup xs) → H' a = some (.tup xs)) : BB H' D gs := by
 obtain ⟨kvs, ks, e, e2, p, q⟩ := h.at_
 exact ⟨kvs, ks, kd _ e, e2, p, fun g hg => (q g hg).imp fun a z => ⟨z.1, kt _ _ z.2⟩⟩
theorem BB.same {H H' : Hp} {D : Addr} {gs : List G} (h : BB H D gs) (s : AL H H') : BB H' D gs := h.keep (fun _ e => s _ _ e) fun _ _ e => s _ _ e
theorem BB.kp {C b S P : Addr} {ow : List Addr} {gs0 : List G} {past : List (List G)} {H H' : Hp} {D : Addr} {gs : List G} (h : BB H D gs) (hb : Bch C H b S P ow gs0 past) (k : Kp b P H H') : BB H' D gs :=
 h.keep (fun _ e => hb.dk k e) fun _ _ e => hb.tup k e
theorem BB.none {H : Hp} {D : Addr} {kvs : List (Key × V)} {ks : List Int} {gs : List G} (e2 : kvs.map (·.1) = ks.map Sum.inl) (p : ks.Perm (Aw gs)) {x : Int} (hx : x ∉ Aw gs) : Bz kvs (.inl x : Key) = Option.none := by
 cases h : Bz kvs (.inl x : Key) with
 | none => rfl
 | some v =>
  have := UL h
  rw [e2] at this
  obtain ⟨y, hy, z⟩ := List.mem_map.mp this
  cases z
  exact absurd (p.mem_iff.mp hy) hx
theorem BB.get {H : Hp} {D : Addr} {gs : List G} (h : BB H D gs) (x : Int) : ∃ o, GK H D (.int x) o ∧ (A9 gs x = Option.none → o = Option.none) ∧ ∀ g, A9 gs x = some g → ∃ a, o = some (.ref a) ∧ H a = some (.tup [.int g.f, .int g.h]) := by
 obtain ⟨kvs, ks, e, e2, p, q⟩ := h.at_
 refine ⟨_, GK.k (k := .inl x) e, fun n => BB.none (H := H) (D := D) e2 p (DX.mp n), fun g hg => ?_⟩
 obtain ⟨h1, h2⟩ := Ce hg
 obtain ⟨a, z1, z2⟩ := q g h1
 rw [h2] at z1
 exact ⟨a, z1, z2⟩
theorem BB.isD {H : Hp} {D : Addr} {gs : List G} (h : BB H D gs) : IsD H D := by
 obtain ⟨kvs, ks, e, _⟩ := h.at_
 exact .inl ⟨kvs, .inl e⟩
theorem BB.len {H : Hp} {D : Addr} {gs : List G} (h : BB H D gs) : ∃ kvs, H D = some (.dK kvs) ∧ kvs.length = gs.length := by
 obtain ⟨kvs, ks, e, e2, p, _⟩ := h.at_
 refine ⟨kvs, e, ?_⟩
 have h1 := congrArg List.length e2
 have h2 := p.length_eq
 simp at h1 h2
 omega
theorem Eu {gs : List G} {x : Int} {o : List G} : (Aw (Dd gs x o)).Perm ((Aw gs).filter (fun y => decide (y ≠ x)) ++ Aw o) := by
 have h := (FW (gs := gs) (p := x) (o := o)).map G.p
 rw [List.map_append] at h
 refine h.trans (List.Perm.append_right _ (List.Perm.of_eq ?_))
 unfold Aw
 clear h
 induction gs with
 | nil => rfl
 | cons g gs ih =>
  by_cases e : g.p = x
  ·rw [List.filter_cons_of_neg (by simp [e]), List.map_cons, List.filter_cons_of_neg (by simp [e]), ih]
  ·rw [List.filter_cons_of_pos (by simp [e]), List.map_cons, List.map_cons, List.filter_cons_of_pos (by simp [e]), ih]
theorem NW {kvs : List (Key × V)} {k : Key} {v : V} : (DC kvs k v).map (·.1) = if (Bz kvs k).isSome = true then kvs.map (·.1) else kvs.map (·.1) ++ [k] := by
 unfold DC
 rw [FX]
 split
 ·rw [List.map_map]
  refine List.map_congr_left fun p _ => ?_
  show (if p.1 = k then (p.1, v) else p).1 = p.1
  split <;> rfl
 ·rw [List.map_append]; rfl
theorem BB.put {H H' : Hp} {D a : Addr} {gs : List G} {x f h : Int} (s : Std gs) (d : BB H D gs) (ea : H a = some (.tup [.int f, .int h])) (hp : Pe H D (.int x) (.ref a) H') : BB H' D (Dd gs x [⟨x, f, h⟩]) := by
 obtain ⟨kvs, ks, e, e2, p, q⟩ := d.at_
 rcases hp with ⟨kvs', k, e', ek, _, rfl⟩ | ⟨_, _, _, e', _⟩
 ·rw [e] at e'
  cases e'
  have hk : k = .inl x := by
   cases k with
   | inl i => cases ek; rfl
   | inr y => cases ek
  subst hk
  have kt : ∀ c xs, H c = some (.tup xs) → upd H D (.dK (DC kvs (.inl x) (.ref a))) c = some (.tup xs) := fun c xs z => (AK (Bv z e (fun z => by cases z))).trans z
  have hmem : ∀ g, g ∈ Dd gs x [⟨x, f, h⟩] → ∃ c, Bz (DC kvs (.inl x) (.ref a)) (.inl g.p) = some (.ref c) ∧ upd H D (.dK (DC kvs (.inl x) (.ref a))) c = some (.tup [.int g.f, .int g.h]) := fun g hg => by
   rcases Gv.mp hg with ⟨h1, h2⟩ | h1
   ·obtain ⟨c, z1, z2⟩ := q g h1
    refine ⟨c, ?_, kt _ _ z2⟩
    rw [LV, if_neg (fun z => h2 (Sum.inl.inj z))]
    exact z1
   ·rw [List.mem_singleton.mp h1]
    exact ⟨a, by rw [LV, if_pos rfl], kt _ _ ea⟩
  have nd : (Aw gs).Nodup := s.nd
  by_cases hx : x ∈ Aw gs
  ·obtain ⟨g, hg, eg⟩ := List.mem_map.mp hx
   obtain ⟨c, z1, _⟩ := q g hg
   rw [eg] at z1
   refine ⟨_, ks, AO, by rw [NW, z1]; exact e2, ?_, hmem⟩
   refine p.trans (List.Perm.trans ?_ Eu.symm)
   have := (List.perm_cons_erase hx).trans (List.perm_append_singleton x _).symm
   rw [nd.erase_eq_filter] at this
   refine this.trans (List.Perm.of_eq ?_)
   show _ = _ ++ [x]
   congr 1
   exact List.filter_congr fun y _ => by
    by_cases h : y = x
    ·simp [h]
    ·simp [h, bne]
  ·refine ⟨_, ks ++ [x], AO, by rw [NW, BB.none (H := H) (D := D) e2 p hx, if_neg (by simp), e2, List.map_append]; rfl, ?_, hmem⟩
   refine List.Perm.trans (p.append_right [x]) (List.Perm.trans (List.Perm.of_eq ?_) Eu.symm)
   show _ = _ ++ [x]
   congr 1
   refine (List.filter_eq_self.mpr fun y hy => ?_).symm
   have hy' : y ≠ x := fun z => hx (by rw [← z]; exact hy)
   simp [hy']
 ·rw [e] at e'
  cases e'
theorem BB.pop {H : Hp} {D : Addr} {gs : List G} {g : G} (d : BB H D gs) (hg : g ∈ gs) : ∃ kvs a, H D = some (.dK kvs) ∧ Bz kvs (.inl g.p) = some (.ref a) ∧ BB (upd H D (.dK (Do kvs (.inl g.p)))) D (Dd gs g.p []) := by
 obtain ⟨kvs, ks, e, e2, p, q⟩ := d.at_
 obtain ⟨a, z1, z2⟩ := q g hg
 have kt : ∀ c xs, H c = some (.tup xs) → upd H D (.dK (Do kvs (.inl g.p))) c = some (.tup xs) := fun c xs z => (AK (Bv z e (fun z => by cases z))).trans z
 refine ⟨kvs, a, e, z1, ⟨_, ks.filter (fun y => decide (y ≠ g.p)), AO, ?_, ?_, fun x hx => ?_⟩⟩
 ·have : ∀ (kvs : List (Key × V)) (ks : List Int), kvs.map (·.1) = ks.map Sum.inl → (Do kvs (.inl g.p)).map (·.1) = (ks.filter fun y => decide (y ≠ g.p)).map Sum.inl := fun kvs => by
   induction kvs with
   | nil => intro ks h; cases ks with
    | nil => rfl
    | cons _ _ => cases h
   | cons kv kvs ih => intro ks h; cases ks with
    | nil => cases h
    | cons k ks =>
     simp only [List.map_cons, List.cons.injEq] at h
     have ih := ih ks h.2
     unfold Do at *
     by_cases ek : k = g.p
     ·rw [List.filter_cons_of_neg (by rw [h.1, ek]; simp), List.filter_cons_of_neg (by simp [ek])]
      exact ih
     ·rw [List.filter_cons_of_pos (by rw [h.1]; simp [ek]), List.filter_cons_of_pos (by simp [ek]), List.map_cons, List.map_cons, ih, h.1]
  exact this kvs ks e2
 ·have := (p.filter (fun y => decide (y ≠ g.p))).trans (List.Perm.of_eq (List.append_nil _).symm)
  exact this.trans (Eu (gs := gs) (x := g.p) (o := [])).symm
 ·rcases Gv.mp hx with ⟨h1, h2⟩ | h1
  ·obtain ⟨c, y1, y2⟩ := q x h1
   refine ⟨c, ?_, kt _ _ y2⟩
   rw [← y1]
   have : ∀ kvs : List (Key × V), Bz (Do kvs (.inl g.p)) (.inl x.p) = Bz kvs (.inl x.p) := fun kvs => by
    induction kvs with
    | nil => rfl
    | cons kv kvs ih =>
     by_cases ek : kv.1 = .inl g.p
     ·rw [Rc ek, ih, BV (fun z => h2 (Sum.inl.inj (z.symm.trans ek)))]
     ·rw [R8 ek]
      by_cases ex : kv.1 = .inl x.p
      ·rw [Bb ex, Bb ex]
      ·rw [BV ex, BV ex, ih]
   exact this kvs
  ·cases h1
theorem BB.nil {H : Hp} {D : Addr} (e : H D = some (.dK [])) : BB H D [] := ⟨[], [], e, rfl, List.Perm.refl _, fun _ h => absurd h (by simp)⟩
theorem LC : ∀ {xs ys : List Int}, xs.Pairwise (· ≤ ·) → ys.Pairwise (· < ·) → xs.Perm ys → xs = ys
 | [], ys, _, _, h => (List.nil_perm.mp h).symm
 | x :: xs, [], _, _, h => absurd h (by intro z; have := z.length_eq; simp at this)
 | x :: xs, y :: ys, h1, h2, h => by
  obtain ⟨a1, a2⟩ := List.pairwise_cons.mp h1
  obtain ⟨b1, b2⟩ := List.pairwise_cons.mp h2
  have e : x = y := by
   have hx : x ∈ y :: ys := h.mem_iff.mp List.mem_cons_self
   have hy : y ∈ x :: xs := h.mem_iff.mpr List.mem_cons_self
   rcases List.mem_cons.mp hx with e | hx
   ·exact e
   ·rcases List.mem_cons.mp hy with e | hy
    ·exact e.symm
    ·have := a1 y hy
     have := b1 x hx
     omega
  subst e
  rw [LC a2 b2 ((List.perm_cons x).mp h)]
theorem MW {gs : List G} (h : Asc gs) : (Aw gs).Pairwise (· < ·) := List.pairwise_map.mpr h
theorem Pt {K : PySem.W.Frag} {a : Addr} {gs : List G} {te : TE} {caps : St} {D : Addr} {H1 : Hp} {Q : Hp → Prop} (hl : SqL K H1 a ((Aw gs).map V.int)) (hD : H1 D = none) (hz : gs.length ≤ 1000)
  (he : ∀ g H (R : VK), g ∈ gs → AL H1 H → (∀ p H', H p = none → AL H H' → H' p = some (.tup (G.vs g)) → R (.ref p) H') → te (some (.int g.p) :: caps) H R)
  (hd : ∀ H as, AL H1 H → H D = some (.lst (as.map V.ref)) → Az H as gs → Q H) : Gd te GZ caps (Itl K a) D H1 Q := by
 have hlen : ((Aw gs).map V.int).length = gs.length := by rw [List.length_map, List.length_map]
 refine B1 (xs := (Aw gs).map V.int) (fun i ys H => ∃ as : List Addr, ys = as.map V.ref ∧ AL H1 H ∧ H D = some (.lst ys) ∧ Az H as (gs.take i)) ⟨[], rfl, BD hD, AO, .nil⟩ (fun _ _ H _ ⟨_, _, s1, _⟩ => s1.seq hl) ?_ ?_
 ·rintro i x ys H hx ⟨as, rfl, s1, e1, g1⟩
  have hi : i < gs.length := by
   have := (List.getElem?_eq_some_iff.mp hx).1
   omega
  have ex : x = V.int gs[i].p := by
   rw [List.getElem?_map, List.getElem?_map, List.getElem?_eq_getElem hi] at hx
   exact (Option.some.inj hx).symm
  subst ex
  have et : gs.take (i + 1) = gs.take i ++ [gs[i]] := List.take_succ_eq_append_getElem hi
  have lg := g1.len
  rw [List.length_take] at lg
  unfold GZ
  dsimp only
  rw [if_pos rfl]
  refine he gs[i] H _ (List.getElem_mem hi) s1 fun p H2 n2 s2 e2 => ?_
  have nD2 : p ≠ D := fun z => by rw [z, e1] at n2; cases n2
  refine ⟨s2.get e1, by rw [List.length_map, PySem.sizeLine_eq]; omega, _, by omega, rfl, by omega, as ++ [p], by rw [List.map_append]; rfl, (s1.trans s2).updFresh hD, AO, ?_⟩
  rw [et]
  exact (Az.snoc (g1.same s2) e2).fresh (fun ys z => by rw [s2.get e1] at z; cases z)
 ·rintro ys H ⟨as, rfl, s1, e1, g1⟩
  rw [hlen, List.take_length] at g1
  exact hd H as s1 e1 g1
structure Kept (ow : List Addr) (H H' : Hp) (ow' : List Addr) : Prop where
 tup : ∀ c xs, H c = some (.tup xs) → H' c = some (.tup xs)
 lst : ∀ c xs, c ∉ ow → H c = some (.lst xs) → H' c = some (.lst xs)
 frz : ∀ c o u, H c = some (.frz o u) → H' c = some (.frz o u)
 off : ∀ c ∈ ow', c ∈ ow ∨ H c = none
 live : ∀ c u, H c = some u → ∃ u', H' c = some u'
 tbl : ∀ c ps, H c = some (.tbl ps) → H' c = some (.tbl ps)
theorem Kept.of {ow : List Addr} {H H' : Hp} (s : AL H H') : Kept ow H H' ow := ⟨fun _ _ e => s _ _ e, fun _ _ _ e => s _ _ e, fun _ _ _ e => s _ _ e, fun _ h => .inl h, fun _ u e => ⟨u, s _ _ e⟩, fun _ _ e => s _ _ e⟩
theorem Kept.refl {ow : List Addr} {H : Hp} : Kept ow H H ow := Kept.of (AL.refl _)
theorem Kept.trans {ow ow1 ow2 : List Addr} {H H1 H2 : Hp} (a : Kept ow H H1 ow1) (b : Kept ow1 H1 H2 ow2) : Kept ow H H2 ow2 where
 tup := fun c xs e => b.tup c xs (a.tup c xs e)
 lst := fun c xs n e => b.lst c xs (fun z => by
  rcases a.off c z with z | z
  ·exact n z
  ·rw [z] at e; cases e) (a.lst c xs n e)
 frz := fun c o u e => b.frz c o u (a.frz c o u e)
 off := fun c h => by
  rcases b.off c h with z | z
  ·exact a.off c z
  ·refine .inr ?_
   cases q : H c with
   | none => rfl
   | some u => obtain ⟨u', e⟩ := a.live c u q; rw [z] at e; cases e
 live := fun c u e => let ⟨u', e'⟩ := a.live c u e; b.live c u' e'
 tbl := fun c ps e => b.tbl c ps (a.tbl c ps e)
theorem Kept.same {ow ow1 : List Addr} {H H1 H2 : Hp} (a : Kept ow H H1 ow1) (s : AL H1 H2) : Kept ow H H2 ow1 := a.trans (Kept.of s)
theorem Kept.kp {C b S P S' P' : Addr} {ow ow' : List Addr} {gs gs' : List G} {past past' : List (List G)} {H H' : Hp} (hb : Bch C H b S P ow gs past) (k : Kp b P H H') (hb' : Bch C H' b S' P' ow' gs' past') (o : ∀ a ∈ ow', a ∈ ow ∨ H a = none) (hl : ∃ u, H' P = some u) : Kept ow H H' ow' where
 tup := fun c xs e => hb.tup k e
 lst := fun c xs n e => hb.lst k e n
 frz := fun c o u e => k c _ (hb.neb e fun _ _ _ z => by cases z) (hb.nep e fun _ z => by cases z) e
 off := o
 live := fun c u e => by
  by_cases h1 : c = b
  ·obtain ⟨dx, z⟩ := hb'.at_; rw [h1]; exact ⟨_, z⟩
  ·by_cases h2 : c = P
   ·rw [h2]; exact hl
   ·exact ⟨u, k c u h1 h2 e⟩
 tbl := fun c ps e => k c _ (hb.neb e fun _ _ _ z => by cases z) (hb.nep e fun _ z => by cases z) e
def Scr (K : PySem.W.Frag) (ow : List Addr) (H : Hp) (a : Addr) (xs : List V) : Prop := (H a = some (.lst xs) ∧ a ∉ ow) ∨ (∃ o, H a = some (.frz o (.lst xs))) ∨ ∀ H', SqL K H' a xs
theorem Scr.sq {K : PySem.W.Frag} {ow : List Addr} {H : Hp} {a : Addr} {xs : List V} (h : Scr K ow H a xs) : SqL K H a xs := by
 rcases h with ⟨h, _⟩ | ⟨o, h⟩ | h
 ·exact .inl (.inl h)
 ·exact .inl (.inr ⟨o, h⟩)
 ·exact h H
theorem Scr.kept {K : PySem.W.Frag} {ow ow' : List Addr} {H H' : Hp} {a : Addr} {xs : List V} (h : Scr K ow H a xs) (k : Kept ow H H' ow') : Scr K ow' H' a xs := by
 rcases h with ⟨h, n⟩ | ⟨o, h⟩ | h
 ·exact .inl ⟨k.lst _ _ n h, QF k.off h n⟩
 ·exact .inr (.inl ⟨o, k.frz _ _ _ h⟩)
 ·exact .inr (.inr h)
theorem Scr.of {K : PySem.W.Frag} {ow : List Addr} {H H' : Hp} {a : Addr} {xs : List V} (h : SqL K H a xs) (ho : ∀ c ∈ ow, H c = none) (s : AL H H') : Scr K ow H' a xs := by
 rcases h with (h | ⟨o, h⟩) | h
 ·exact .inl ⟨s.get h, fun z => by rw [ho a z] at h; cases h⟩
 ·exact .inr (.inl ⟨o, s.get h⟩)
 ·exact .inr (.inr fun _ => .inr h)
theorem SI {G0 gs : List G} {k : Nat} (hp : G0.Perm (gs.take k)) (hk : k < gs.length) (nd : (gs.map G.p).Nodup) (h40 : gs.length ≤ 40) (ok : ∀ g ∈ gs, OkG g) {past : List (List G)} (hl : past.length < 300) :
  IM G0 past gs[k].p gs[k].f gs[k].h = none ∧ (Dd G0 gs[k].p [⟨gs[k].p, gs[k].f, gs[k].h⟩]).Perm (gs.take (k + 1)) := by
 have hn : gs[k].p ∉ Aw G0 := fun z => by
  obtain ⟨g, hg, e⟩ := List.mem_map.mp z
  have hg2 := hp.mem_iff.mp hg
  obtain ⟨j, hj, ej⟩ := List.getElem_of_mem hg2
  rw [List.length_take] at hj
  rw [List.getElem_take] at ej
  have hjk : j < k := by omega
  have h1 : (gs.map G.p)[j]'(by rw [List.length_map]; omega) = (gs.map G.p)[k]'(by rw [List.length_map]; omega) := by
   rw [List.getElem_map, List.getElem_map, ej, e]
  exact List.pairwise_iff_getElem.mp nd j k (by rw [List.length_map]; omega) (by rw [List.length_map]; omega) hjk h1
 have hl2 := hp.length_eq
 rw [List.length_take] at hl2
 constructor
 ·unfold IM
  rw [if_neg hn, (Fh (p := gs[k].p) (f := gs[k].f) (h := gs[k].h)).mpr (ok gs[k] (List.getElem_mem hk)), if_neg (by omega), if_neg (by omega)]
  rfl
 ·refine FW.trans ?_
  rw [PM hn, List.take_succ_eq_append_getElem hk]
  exact hp.append_right _
theorem BB.dput {H : Hp} {D a : Addr} {gs : List G} {x f h : Int} (s : Std gs) (d : BB H D gs) (ea : H a = some (.tup [.int f, .int h])) :
  ∃ kvs kvs', H D = some (.dK kvs) ∧ Pe H D (.int x) (.ref a) (upd H D (.dK kvs')) ∧ BB (upd H D (.dK kvs')) D (Dd gs x [⟨x, f, h⟩]) := by
 obtain ⟨kvs, e, hl⟩ := d.len
 have hp : Pe H D (.int x) (.ref a) (upd H D (.dK (DC kvs (.inl x) (.ref a)))) := .inl ⟨kvs, .inl x, e, rfl, by rw [PySem.sizeLine_eq]; have := s.len; omega, rfl⟩
 exact ⟨kvs, _, e, hp, BB.put s d ea hp⟩
end TG
set_option Elab.async false
set_option linter.all false
set_option maxRecDepth 100000
set_option maxHeartbeats 4000000
namespace L2
open PySem PySem.Spec PyProof.Rows
theorem vals3 {x y z : V} {us : List Value} (r : Au [x, y, z] us) : ∃ u v w', us = [u, v, w'] ∧ RelV x u ∧ RelV y v ∧ RelV z w' := by
 cases r with
 | cons r1 r2 =>
  cases r2 with
  | cons r3 r4 =>
   cases r4 with
   | cons r5 r6 => cases r6; exact ⟨_, _, _, rfl, r1, r3, r5⟩
section
variable {X : Cx}
def HX : List V → Hp → VK → Prop := fun xs H Q => ∃ i j k, xs = [.int i, .int j, .int k] ∧ ∀ m, (∀ b, m ≤ b ↔ i ≤ b ∧ j ≤ b ∧ k ≤ b) → Q (.int m) H
theorem RZ (hc : X.calm = true) : CA X (.builtin "max") HX := by
 intro pins s σ H xs us Q I r h
 obtain ⟨i, j, k, rfl, q⟩ := h
 obtain ⟨u, v, w', rfl, ⟨t, rfl⟩, ⟨t', rfl⟩, ⟨t'', rfl⟩⟩ := vals3 r
 refine max_three_ints (I.ok.hd hc) fun h' tk kp => ?_
 by_cases h1 : j > i
 ·rw [if_pos h1]
  by_cases h2 : k > j
  ·rw [if_pos h2]; exact ⟨.int k, H, I.kept kp, ⟨_, rfl⟩, q k fun b => by omega⟩
  ·rw [if_neg h2]; exact ⟨.int j, H, I.kept kp, ⟨_, rfl⟩, q j fun b => by omega⟩
 ·rw [if_neg h1]
  by_cases h2 : k > i
  ·rw [if_pos h2]; exact ⟨.int k, H, I.kept kp, ⟨_, rfl⟩, q k fun b => by omega⟩
  ·rw [if_neg h2]; exact ⟨.int i, H, I.kept kp, ⟨_, rfl⟩, q i fun b => by omega⟩
end
end L2
namespace TG
open PySem L2
def SS : Err → Str
 | .nogate => "no gate" | .taken => "taken" | .upside => "upside down" | .bounds => "out of bounds" | .full => "beach full" | .deeds => "deeds full" | .nothing => "nothing back"
 | .badlist => "bad list" | .few => "too few" | .size => "wrong size" | .badthrow => "bad throw" | .badrow => "bad row"
def SR : Option Err → Str
 | none => ""
 | some e => SS e
inductive Wrd (w : Str) : Prop where
 | put (h : w = "put") | take (h : w = "take") | lift (h : w = "lift") | sink (h : w = "sink") | back (h : w = "back")
def Be (w : Str) (gs : List G) (past : List (List G)) (p x y : Int) : Option Err :=
 if w = "back" then JY past p else if w = "put" then IM gs past p x y else if w = "take" then GG gs past p else if w = "lift" then Dx gs past p x y else Dx gs past p (-x) (-y)
def BS (w : Str) (gs : List G) (p x y : Int) : Int × Int :=
 if w = "put" then (x, y) else
  if w = "lift" then (((A9 gs p).elim 0 G.f) + x, ((A9 gs p).elim 0 G.h) + y) else
  if w = "sink" then (((A9 gs p).elim 0 G.f) - x, ((A9 gs p).elim 0 G.h) - y) else ((A9 gs p).elim 0 G.f, (A9 gs p).elim 0 G.h)
def Eb (w : Str) (gs : List G) (past : List (List G)) (p x y : Int) : List G :=
 if w = "back" then past.getD (past.length - p.toNat) [] else if w = "take" then Dd gs p [] else Dd gs p [⟨p, (BS w gs p x y).1, (BS w gs p x y).2⟩]
def JO (w : Str) (gs : List G) (past : List (List G)) (p : Int) : List (List G) := if w = "back" then past.take (past.length - p.toNat) else past ++ [gs]
def aft (w : Str) (gs : List G) (past : List (List G)) (p x y : Int) : List G × List (List G) := match Be w gs past p x y with
 | some _ => (gs, past)
 | none => (Eb w gs past p x y, JO w gs past p)
def Ia : Err → Bool
 | .nogate => true | .taken => true | .upside => true | .bounds => true | .full => true | .deeds => true | .nothing => true | _ => false
theorem PD {p f h : Int} {e : Err} (he : Dr p f h = some e) : Ia e = true := by
 unfold Dr at he
 split at he
 ·cases he; rfl
 ·split at he
  ·cases he
  ·cases he; rfl
theorem M0 {past : List (List G)} {e : Err} (he : Df past = some e) : Ia e = true := by
 unfold Df at he
 split at he
 ·cases he; rfl
 ·cases he
theorem Tz {gs : List G} {past : List (List G)} {p f h : Int} {e : Err} (he : IM gs past p f h = some e) : Ia e = true := by
 unfold IM at he
 split at he
 ·cases he; rfl
 ·cases hg : Dr p f h with
  | some e' => rw [hg] at he; cases he; exact PD hg
  | none =>
   rw [hg] at he
   have he : (if 40 ≤ gs.length then some Err.full else if 300 ≤ past.length then some Err.deeds else none) = some e := he
   split at he
   ·cases he; rfl
   ·split at he
    ·cases he; rfl
    ·cases he
theorem SM {gs : List G} {past : List (List G)} {p : Int} {e : Err} (he : GG gs past p = some e) : Ia e = true := by
 unfold GG at he
 split at he
 ·exact M0 he
 ·cases he; rfl
theorem O4 {gs : List G} {past : List (List G)} {p x y : Int} {e : Err} (he : Dx gs past p x y = some e) : Ia e = true := by
 unfold Dx at he
 split at he
 ·cases he; rfl
 ·rename_i g _
  cases hg : Dr p (g.f + x) (g.h + y) with
  | some e' => rw [hg] at he; cases he; exact PD hg
  | none => rw [hg] at he; exact M0 he
theorem TF {past : List (List G)} {n : Int} {e : Err} (he : JY past n = some e) : Ia e = true := by
 unfold JY at he
 split at he
 ·cases he; rfl
 ·split at he
  ·cases he; rfl
  ·cases he
theorem T3 {e : Err} : SS e ≠ "" := by cases e <;> decide
structure Wd (C : Addr) (H : Hp) (b S P : Addr) (ow : List Addr) (gs : List G) (past : List (List G)) (D L : Addr) : Prop where
 bch : Bch C H b S P ow gs past
 dk : BB H D gs
 pl : ∃ ds : List Addr, H L = some (.lst (ds.map V.ref)) ∧ Paired (BB H) ds past ∧ D ∉ ds
 po : L ∉ ow
theorem Wd.same {C : Addr} {H H' : Hp} {b S P : Addr} {ow : List Addr} {gs : List G} {past : List (List G)} {D L : Addr} (h : Wd C H b S P ow gs past D L) (s : AL H H') : Wd C H' b S P ow gs past D L := by
 obtain ⟨ds, e, pr, n⟩ := h.pl
 exact ⟨h.bch.same s, h.dk.same s, ⟨ds, s.get e, Paired.mapP pr fun _ _ q => q.same s, n⟩, h.po⟩
theorem Wd.deed {C : Addr} {H H' : Hp} {b S P S' P' : Addr} {ow ow' : List Addr} {gs gs' : List G} {past past' : List (List G)} {D L : Addr} (h : Wd C H b S P ow gs past D L) (k : Kp b P H H') (hb' : Bch C H' b S' P' ow' gs' past') (o : ∀ a ∈ ow', a ∈ ow ∨ H a = none) :
  BB H' D gs ∧ (∃ ds : List Addr, H' L = some (.lst (ds.map V.ref)) ∧ Paired (BB H') ds past ∧ D ∉ ds) ∧ L ∉ ow' := by
 obtain ⟨ds, e, pr, n⟩ := h.pl
 exact ⟨h.dk.kp h.bch k, ⟨ds, h.bch.lst k e h.po, Paired.mapP pr fun _ _ q => q.kp h.bch k, n⟩, QF o e h.po⟩
theorem Wd.plen {C : Addr} {H : Hp} {b S P : Addr} {ow : List Addr} {gs : List G} {past : List (List G)} {D L : Addr} (h : Wd C H b S P ow gs past D L) : ∃ xs, H L = some (.lst xs) ∧ xs.length = past.length := by
 obtain ⟨ds, e, pr, n⟩ := h.pl
 exact ⟨_, e, by rw [List.length_map, Paired.length pr]⟩
theorem Kept.cons {ow ow' : List Addr} {H H' : Hp} (k : Kept ow H H' ow') {L : Addr} : Kept (L :: ow) H H' (L :: ow') :=
 ⟨k.tup, fun c xs n e => k.lst c xs (fun z => n (List.mem_cons_of_mem _ z)) e, k.frz, fun c hc => by
  rcases List.mem_cons.mp hc with z | z
  ·exact .inl (by rw [z]; exact List.mem_cons_self)
  ·exact (k.off c z).imp (List.mem_cons_of_mem _) id, k.live, k.tbl⟩
theorem Qd {w : Str} {gs : List G} {past : List (List G)} {p x y : Int} (wd : Wrd w) (nb : w ≠ "back") (h1 : w = "put" → p ∉ Aw gs) (h2 : w ≠ "put" → p ∈ Aw gs) (sd : Std gs) :
  Be w gs past p x y = (Dr p (BS w gs p x y).1 (BS w gs p x y).2).or (if w = "put" ∧ 40 ≤ gs.length then some .full else Df past) := by
 unfold Be
 rw [if_neg nb]
 rcases wd with e | e | e | e | e
 ·subst e
  rw [if_pos rfl]
  unfold IM BS Df
  rw [if_neg (h1 rfl), if_pos rfl]
  by_cases h4 : 40 ≤ gs.length
  ·rw [if_pos h4, if_pos ⟨rfl, h4⟩]
  ·rw [if_neg h4, if_neg (show ¬ (("put" : Str) = "put" ∧ 40 ≤ gs.length) from fun z => h4 z.2)]
 all_goals first | exact absurd e nb | skip
 all_goals
  have np : w ≠ "put" := by rw [e]; decide
  have hp := h2 np
  obtain ⟨g, hg, hgp⟩ := List.mem_map.mp hp
  have gof : A9 gs p = some g := hgp ▸ Nc sd.asc hg
  rw [if_neg np, if_neg (show ¬ (w = "put" ∧ 40 ≤ gs.length) from fun z => np z.1)]
  unfold BS
  rw [if_neg np, gof]
 ·rw [if_pos e, if_neg (by rw [e]; decide), if_neg (by rw [e]; decide)]
  unfold GG
  rw [if_pos hp]
  have : Dr p g.f g.h = none := hgp ▸ Fh.mpr (sd.ok g hg)
  show _ = (Dr p g.f g.h).or _
  rw [this]
  rfl
 ·rw [if_neg (by rw [e]; decide), if_pos e, if_pos e]
  unfold Dx
  rw [gof]
  rfl
 ·rw [if_neg (by rw [e]; decide), if_neg (by rw [e]; decide), if_neg (by rw [e]; decide), if_pos e]
  unfold Dx
  rw [gof]
  rfl
theorem RL {w : Str} {gs : List G} {past : List (List G)} {p x y : Int} (wd : Wrd w) (nb : w ≠ "back") : (w = "put" → p ∈ Aw gs → Be w gs past p x y = some .taken) ∧ (w ≠ "put" → p ∉ Aw gs → Be w gs past p x y = some .nogate) := by
 constructor
 ·intro e hp
  unfold Be IM
  rw [if_neg nb, if_pos e, if_pos hp]
 ·intro np hp
  unfold Be
  rw [if_neg nb, if_neg np]
  unfold GG Dx
  rw [DX.mpr hp, if_neg hp]
  split
  ·rfl
  ·split <;> rfl
theorem O3 {H : Hp} {D : Addr} {gs : List G} {x : Int} {o : Option V} (hn : A9 gs x = none → o = none) (hs : ∀ g, A9 gs x = some g → ∃ a, o = some (.ref a) ∧ H a = some (.tup [.int g.f, .int g.h])) : o.isSome = decide (x ∈ Aw gs) := by
 cases hg : A9 gs x with
 | none => rw [hn hg, decide_eq_false (DX.mp hg)]; rfl
 | some g =>
  obtain ⟨a, rfl, _⟩ := hs g hg
  obtain ⟨h1, h2⟩ := Ce hg
  rw [decide_eq_true (List.mem_map.mpr ⟨g, h1, h2⟩)]
  rfl
end TG
set_option Elab.async false
set_option linter.all false
set_option maxRecDepth 100000
set_option maxHeartbeats 4000000
namespace TG
open PySem PySem.W PySem.Calls L2
def Jc (tb : String → Option Builtin) (p : Program) (w : World) (n₀ : Nat) (ann : Option Value) : Nat → SharedT → Thread → Option SharedT
 | 0, _, _ => none
 | n + 1, s, t => match through t with
  | true => some s
  | false => match stepOk n₀ ann t with
   | false => none
   | true => match stepT (denote tb) p w s t with
    | some (s', t') => Jc tb p w n₀ ann n s' t'
    | none => none
theorem LL {tb : String → Option Builtin} {p : Program} {w : World} {n₀ : Nat} {ann : Option Value} : ∀ {n : Nat} {s s' : SharedT} {t : Thread}, Jc tb p w n₀ ann n s t = some s' → topRun tb p w n₀ ann n s.abs t = some s'.abs
 | 0, _, _, _, h => by cases h
 | n + 1, s, s', t, h => by
  unfold Jc at h
  unfold topRun
  cases he : through t with
  | true => rw [he] at h; cases h; rfl
  | false =>
   rw [he] at h
   cases hk : stepOk n₀ ann t with
   | false => rw [hk] at h; cases h
   | true =>
    rw [hk] at h
    cases hs : stepT (denote tb) p w s t with
    | none => rw [hs] at h; cases h
    | some r => obtain ⟨s₂, t₂⟩ := r; rw [hs] at h; rw [stepT_spec hs]; exact LL h
def Kof (as : List Addr) (h : Heap) : Frag := as.filterMap fun a => (h.get? a).map fun o => (a, o)
theorem Wa (as : List Addr) (h : Heap) : (Kof as h).In h := by
 intro a o e
 induction as with
 | nil => cases e
 | cons b r ih =>
  simp only [Kof, List.filterMap_cons] at e
  cases hb : h.get? b with
  | none => rw [hb] at e; exact ih e
  | some ob =>
   rw [hb] at e
   simp only [Option.map_some, List.lookup] at e
   split at e
   ·rename_i q; cases e; rw [beq_iff_eq.mp q]; exact hb
   ·exact ih e
def QX (t : BT) (n a : Nat) : Option Obj := match Nat.blt a n with
 | true => alive ((t.get a).getD default)
 | false => none
def RU (as : List Addr) (s : SharedT) : Frag := as.filterMap fun a => (QX s.tree s.n a).map fun o => (a, o)
theorem Qv (t : BT) (n : Nat) (life : Life) (a : Nat) : (absHeap t n life).get? a = QX t n a := by
 unfold QX
 cases h : Nat.blt a n with
 | true =>
  have h' : a < n := by simpa [Nat.blt_eq] using h
  show _ = alive ((t.get a).getD default)
  unfold Heap.get?
  rw [absHeap_at, if_pos h']
  generalize (t.get a).getD default = o
  obtain ⟨c, d, dt, sl⟩ := o
  cases dt <;> rfl
 | false =>
  have h' : ¬ a < n := by intro q; rw [Nat.blt_eq.mpr q] at h; cases h
  exact abs_get_none h'
theorem T8 (as : List Addr) (s : SharedT) : Kof as s.abs.heap = RU as s := by
 unfold Kof RU
 congr 1
 funext a
 show ((absHeap s.tree s.n s.life).get? a).map _ = _
 rw [Qv]
def SF : Nat → BT → List Obj → BT
 | _, t, [] => t
 | i, t, o :: r => SF (i + 1) (t.ins i o) r
noncomputable def SX (P : Params) (os : OsState) : SharedT := ⟨SF 0 .nil (boot_heap P).objs.toList, 11, {}, #[], boot_drawn, boot_toks, os⟩
theorem RI (P : Params) (os : OsState) : (SX P os).abs = ⟨boot_heap P, #[], boot_drawn, boot_toks, os⟩ := by kernel_rfl
theorem R0 (P : Params) : ((boot_heap P).isNs mainGlobals && (#[] : Array GenState).size == 0, (boot_heap P).objs.size, (boot_heap P).nsMap mainGlobals "__annotations__") = (true, 11, some (.ref 6)) := by kernel_rfl
noncomputable def S7 {β : Type} (p q : Program) (loose : List Str) (obs : SharedT → β) (P : Params) (s : SharedT) :=
 ((staticsOk (importedModules p.main.body) (boot_heap P) s.abs.heap && namesBound p s.abs.heap && gensDone s.abs && laidKept (boot_heap P) s.abs.heap), openSeen q loose (importedModules p.main.body) (fun _ => true) true s.abs, obs s)
noncomputable def KS {β : Type} (p q : Program) (loose : List Str) (obs : SharedT → β) (M : Nat) (w : World) (os : OsState) :=
 (Jc treeTable p w 11 (some (.ref 6)) M (SX w.params os) (topStub p)).map (S7 p q loose obs w.params)
noncomputable def Sq {β : Type} (p : Program) (obs : SharedT → β) (M : Nat) (w : World) (os : OsState) :=
 (Jc treeTable p w 11 (some (.ref 6)) M (SX w.params os) (topStub p)).map obs
theorem QJ {β : Type} {p q : Program} {loose : List Str} {B : SharedT → β} {M : Nat} {w : World} {os : OsState} {v : β} (e1 : KS p q loose (fun _ => ()) M w os = some (true, openGood q loose, ())) (e2 : Sq p B M w os = some v) : KS p q loose B M w os = some (true, openGood q loose, v) := by
 obtain ⟨s, r, l⟩ := Option.map_eq_some_iff.mp e1
 obtain ⟨s', r', l'⟩ := Option.map_eq_some_iff.mp e2
 obtain rfl : s = s' := Option.some.inj (r.symm.trans r')
 obtain ⟨l1, l2, -⟩ : _ ∧ _ ∧ _ := by simpa only [S7, Prod.mk.injEq] using l
 unfold KS
 rw [r]
 exact congrArg some (Prod.ext l1 (Prod.ext l2 l'))
theorem US {p q : Program} {loose : List Str} {β : Type} {Yf : Shared → β} {obs : SharedT → β} {v : β} {N M : Nat}
  (e : opening p = plainProg p.main.scope.names) (hN : Nat.ble 600 N = true) (f : ∀ s, fenceModules? p s = some s) (le : Nat.ble M N = true) (hY : ∀ s : SharedT, Yf s.abs = obs s)
  (run : ∀ (w : World) (os : OsState), KS p q loose obs M w os = some (true, openGood q loose, v)) : LeftO p q loose (fun _ => true) Yf (fun _ => v) N := fun w => by
 have open_ := boot_open e hN f w
 obtain ⟨⟨h, gs, d, k, os⟩, e1, e2⟩ := Option.map_eq_some_iff.mp open_
 obtain ⟨rfl, rfl, rfl, rfl⟩ : h = boot_heap w.params ∧ gs = #[] ∧ d = boot_drawn ∧ k = boot_toks := by simpa using e2
 obtain ⟨z1, z2, z3⟩ : _ ∧ _ ∧ _ := by simpa only [Prod.mk.injEq] using R0 w.params
 obtain ⟨sT, r0, l0⟩ := Option.map_eq_some_iff.mp (run w os)
 obtain ⟨l1, l2, l3⟩ : _ ∧ _ ∧ _ := by simpa only [S7, Prod.mk.injEq] using l0
 have r1 := LL r0
 rw [RI] at r1
 have r := topRun_mono (N - M) _ _ _ _ r1
 rw [show M + (N - M) = N by have := Nat.le_of_ble_eq_true le; omega] at r
 have t : topFrom treeTable p w N ⟨boot_heap w.params, #[], boot_drawn, boot_toks, os⟩ = some sT.abs := by
  unfold topFrom
  dsimp only
  rw [z1, z2, z3, r]
  show (match staticsOk (importedModules p.main.body) (boot_heap w.params) sT.abs.heap && namesBound p sT.abs.heap && gensDone sT.abs && laidKept (boot_heap w.params) sT.abs.heap with | true => _ | false => _) = _
  rw [l1]
 unfold openEnds
 rw [e1]
 show (topFrom treeTable p w N _).map _ = _
 rw [t]
 exact congrArg some (Prod.ext l2 ((hY sT).trans l3))
abbrev Seen := Option (Str × Str × Arguments × List Stmt × Scope × Addr × List (Str × Addr) × Addr × Bool × List Int)
def Ow : List Value → Option (List Int)
 | [] => some []
 | .int i _ :: r => (Ow r).map (i :: ·)
 | _ => none
def dfl (K : Frag) : Value → Option (List Int)
 | .none => some []
 | .ref d => match K.lookup d with
  | some ⟨_, _, .seq vs _, _⟩ => match Ow vs.toList with
   | some (i :: r) => some (i :: r)
   | _ => none
  | _ => none
 | _ => none
def SY (K : Frag) (f : Addr) (qual : Str) : Seen := match K.lookup f with
 | some ⟨_, _, .func ⟨nm, q, ps, .stmts b, sc, g, cl, dV, _, _, _, _, cd, _, bi⟩, _⟩ => match dfl K dV with
  | some ds => some (nm, q, ps, b, sc, g, cl, bi, codeIn K cd qual && keepIn K (.ref f), ds)
  | none => none
 | _ => none
def BQ (K : Frag) (x : Str) : Seen := match nsIn K mainGlobals x with
 | some (some (.ref f)) => SY K f x
 | _ => none
def GM (K : Frag) (c x qual : Str) : Seen := match nsIn K mainGlobals c with
 | some (some (.ref C)) => match findIn K (.ref C) x with
  | some (some (.ref f)) => match isFn K (.ref f) with
   | true => SY K f qual
   | false => none
  | _ => none
 | _ => none
def A1 (x qual : Str) (st : Stmt) (ds : List Int) : Seen := some (x, qual, Bq st, BR st, AH st, mainGlobals, [], builtinsNs, true, ds)
def WY (K : Frag) (c : Str) (fs : List Str) : Bool := match nsIn K mainGlobals c with
 | some (some (.ref C)) => plainGet K C Str.empty && hasDictIn K C && plainOver K C && findIn K (.ref C) "__setattr__" == some (some (.builtin "object.__setattr__")) && makesIn K C && keepIn K (.ref C) && fs.all fun f => findIn K (.ref C) f == some none
 | _ => false
def L4 (K : Frag) (c : Str) : Bool := match nsIn K mainGlobals c with
 | some (some (.ref C)) => excIn K C bmV "ValueError.__new__"
 | _ => false
def A2 (K : Frag) (a b : Str) : Option Bool := match nsIn K mainGlobals a, nsIn K mainGlobals b with
 | some (some (.ref A)), some (some (.ref B)) => exmOne K (.ref A) (.ref B)
 | _, _ => none
def QE (K : Frag) (x : Str) : Option Int := match nsIn K mainGlobals x with
 | some (some (.int i _)) => some i
 | _ => none
def HG (K : Frag) (x : Str) : Bool := match nsIn K mainGlobals x with
 | some none => true
 | _ => false
section
variable {K : Frag}
theorem Og {v : Value} (e : dfl K v = some []) : v = .none := by
 unfold dfl at e
 split at e
 ·rfl
 ·repeat' split at e
  all_goals cases e
 ·cases e
theorem Nb : ∀ {vs : List Value} {is : List Int}, Ow vs = some is → ∃ ts : List Tok, ts.length = is.length ∧ vs = is.zipWith Value.int ts
 | [], is, e => by cases e; exact ⟨[], rfl, rfl⟩
 | v :: r, is, e => by
  unfold Ow at e
  split at e
  ·cases e; rename_i h; cases h
  ·rename_i i t r' h
   cases h
   cases h2 : Ow r with
   | none => rw [h2] at e; cases e
   | some js =>
    rw [h2] at e
    cases e
    obtain ⟨ts, hl, rfl⟩ := Nb h2
    exact ⟨t :: ts, by simp [hl], rfl⟩
  ·cases e
theorem Tb {v : Value} {i : Int} {r : List Int} (e : dfl K v = some (i :: r)) : ∃ d cl di n sl ts, v = .ref d ∧ ts.length = (i :: r).length ∧ K.lookup d = some ⟨cl, di, .seq ((i :: r).zipWith Value.int ts).toArray n, sl⟩ := by
 unfold dfl at e
 split at e
 ·cases e
 ·rename_i d
  split at e
  ·rename_i cl di vs n sl hl
   split at e
   ·rename_i j r' h
    cases e
    obtain ⟨ts, h1, h2⟩ := Nb h
    refine ⟨d, cl, di, n, sl, ts, rfl, h1, ?_⟩
    rw [hl, ← h2]
   ·cases e
  ·cases e
 ·cases e
theorem OL {f : Addr} {x qual : Str} {st : Stmt} {ds : List Int} (e : SY K f qual = A1 x qual st ds) : ∃ (oc : Value) (od : Option Addr) (sl : Array (Option Value)) (dV kV dc pm : Value) (an : Option Addr) (cd ct : Value),
  K.lookup f = some ⟨oc, od, .func (fnOf x qual (Bq st) (BR st) (AH st) dV kV dc pm an cd ct), sl⟩ ∧ codeIn K cd qual = true ∧ keepIn K (.ref f) = true ∧ dfl K dV = some ds := by
 unfold SY A1 at e
 split at e
 ·rename_i oc od nm q ps b sc g cl dV kV dc pm an cd ct bi sl hl
  split at e
  ·rename_i ds' hd
   simp only [Option.some.injEq, Prod.mk.injEq, Bool.and_eq_true] at e
   obtain ⟨rfl, rfl, rfl, rfl, rfl, rfl, rfl, rfl, ⟨h1, h2⟩, rfl⟩ := e
   exact ⟨oc, od, sl, dV, kV, dc, pm, an, cd, ct, hl, h1, h2, hd⟩
  ·cases e
 ·cases e
theorem RC {x : Str} {st : Stmt} (e : BQ K x = A1 x x st []) : ∃ (f : Addr) (oc : Value) (od : Option Addr) (sl : Array (Option Value)) (kV dc pm : Value) (an : Option Addr) (cd ct : Value),
  nsIn K mainGlobals x = some (some (.ref f)) ∧ K.lookup f = some ⟨oc, od, .func (fnOf x x (Bq st) (BR st) (AH st) .none kV dc pm an cd ct), sl⟩ ∧ codeIn K cd x = true ∧ keepIn K (.ref f) = true := by
 unfold BQ at e
 split at e
 ·rename_i f hf
  obtain ⟨oc, od, sl, dV, kV, dc, pm, an, cd, ct, h1, h2, h3, h4⟩ := OL e
  cases Og h4
  exact ⟨f, oc, od, sl, kV, dc, pm, an, cd, ct, hf, h1, h2, h3⟩
 ·cases e
theorem Ua {C : Addr} {c x qual : Str} {st : Stmt} {ds : List Int} (hc : nsIn K mainGlobals c = some (some (.ref C))) (e : GM K c x qual = A1 x qual st ds) : ∃ f : Addr, findIn K (.ref C) x = some (some (.ref f)) ∧ isFn K (.ref f) = true ∧ SY K f qual = A1 x qual st ds := by
 unfold GM at e
 rw [hc] at e
 dsimp only at e
 split at e
 ·rename_i f hf
  split at e
  ·rename_i h
   exact ⟨f, hf, h, e⟩
  ·cases e
 ·cases e
theorem T0 {C : Addr} {c x qual : Str} {st : Stmt} (hc : nsIn K mainGlobals c = some (some (.ref C))) (e : GM K c x qual = A1 x qual st []) : ∃ (f : Addr) (oc : Value) (od : Option Addr) (sl : Array (Option Value)) (kV dc pm : Value) (an : Option Addr) (cd ct : Value),
  findIn K (.ref C) x = some (some (.ref f)) ∧ isFn K (.ref f) = true ∧ K.lookup f = some ⟨oc, od, .func (fnOf x qual (Bq st) (BR st) (AH st) .none kV dc pm an cd ct), sl⟩ ∧ codeIn K cd qual = true ∧ keepIn K (.ref f) = true := by
 obtain ⟨f, hf, hi, e⟩ := Ua hc e
 obtain ⟨oc, od, sl, dV, kV, dc, pm, an, cd, ct, h1, h2, h3, h4⟩ := OL e
 cases Og h4
 exact ⟨f, oc, od, sl, kV, dc, pm, an, cd, ct, hf, hi, h1, h2, h3⟩
theorem TD {C : Addr} {c x qual : Str} {st : Stmt} {i : Int} (hc : nsIn K mainGlobals c = some (some (.ref C))) (e : GM K c x qual = A1 x qual st [i]) : ∃ (f : Addr) (oc : Value) (od : Option Addr) (sl : Array (Option Value)) (d : Addr) (kV dc pm : Value) (an : Option Addr) (cd ct : Value) (dcl : Value) (ddi : Option Addr) (dn : Nat) (dsl : Array (Option Value)) (tk : Tok),
  findIn K (.ref C) x = some (some (.ref f)) ∧ isFn K (.ref f) = true ∧ K.lookup f = some ⟨oc, od, .func (fnOf x qual (Bq st) (BR st) (AH st) (.ref d) kV dc pm an cd ct), sl⟩ ∧ codeIn K cd qual = true ∧ keepIn K (.ref f) = true ∧ K.lookup d = some ⟨dcl, ddi, .seq #[.int i tk] dn, dsl⟩ := by
 obtain ⟨f, hf, hi, e⟩ := Ua hc e
 obtain ⟨oc, od, sl, dV, kV, dc, pm, an, cd, ct, h1, h2, h3, h4⟩ := OL e
 obtain ⟨d, cl, di, n, sl', ts, rfl, hl, h5⟩ := Tb h4
 match ts, hl with
 | [t], _ => exact ⟨f, oc, od, sl, d, kV, dc, pm, an, cd, ct, cl, di, n, sl', t, hf, hi, h1, h2, h3, h5⟩
theorem UX {c : Str} {fs : List Str} (e : WY K c fs = true) : ∃ C : Addr, nsIn K mainGlobals c = some (some (.ref C)) ∧ plainGet K C Str.empty = true ∧ hasDictIn K C = true ∧ plainOver K C = true ∧
  findIn K (.ref C) "__setattr__" = some (some (.builtin "object.__setattr__")) ∧ makesIn K C = true ∧ keepIn K (.ref C) = true ∧ ∀ f ∈ fs, findIn K (.ref C) f = some none := by
 unfold WY at e
 split at e
 ·rename_i C hC
  simp only [Bool.and_eq_true, beq_iff_eq, List.all_eq_true] at e
  obtain ⟨⟨⟨⟨⟨⟨h1, h2⟩, h3⟩, h4⟩, h5⟩, h6⟩, h7⟩ := e
  exact ⟨C, hC, h1, h2, h3, h4, h5, h6, h7⟩
 ·cases e
theorem D9 {c : Str} (e : L4 K c = true) : ∃ C : Addr, nsIn K mainGlobals c = some (some (.ref C)) ∧ excIn K C [.type "ValueError", .type "Exception", .type "BaseException", .type "object"] "ValueError.__new__" = true := by
 unfold L4 at e
 split at e
 ·rename_i C hC
  exact ⟨C, hC, e⟩
 ·cases e
theorem AX {a b : Str} {A B : Addr} {r : Bool} (ha : nsIn K mainGlobals a = some (some (.ref A))) (hb : nsIn K mainGlobals b = some (some (.ref B))) (e : A2 K a b = some r) : exmOne K (.ref A) (.ref B) = some r := by
 unfold A2 at e
 rw [ha, hb] at e
 exact e
theorem JD {x : Str} {i : Int} (e : QE K x = some i) : ∃ t : Tok, nsIn K mainGlobals x = some (some (.int i t)) := by
 unfold QE at e
 split at e
 ·rename_i j t h
  cases e
  exact ⟨t, h⟩
 ·cases e
theorem Bs {x : Str} (e : HG K x = true) : nsIn K mainGlobals x = some none := by
 unfold HG at e
 split at e
 ·assumption
 ·cases e
end
end TG
namespace TG
open PySem PySem.W
theorem Vl {R : WRecords} {h : Heap} (e : R = []) : RecFacts R h := by
 subst e
 exact ⟨fun x hx => (nomatch hx), fun x hx => (nomatch hx), fun c c' a (hc : false = true) => (nomatch hc), fun c fs (hf : none = some fs) => (nomatch hf)⟩
end TG
set_option Elab.async false
set_option linter.all false
set_option maxRecDepth 100000
set_option maxHeartbeats 4000000
namespace TG
open PySem L2
theorem Th {c A B : Prop} [Decidable c] {H : Hp} {D : Addr} {k : V} {o : Option V} (gt : GK H D k o) (hA : c → o.isSome = true → A) (hB : (c → o.isSome = false) → B) :
  if decide c = true then (∃ x, GK H D k x ∧ if x.isSome = true then A else B) else B := by
 by_cases hc : c
 ·rw [if_pos (decide_eq_true hc)]
  refine ⟨o, gt, ?_⟩
  cases ho : o.isSome with
  | true => rw [if_pos rfl]; exact hA hc ho
  | false => rw [if_neg Bool.false_ne_true]; exact hB fun _ => ho
 ·rw [if_neg (fun z => hc (of_decide_eq_true z))]
  exact hB fun z => absurd z hc
end TG
namespace L2
open PySem
theorem Pi {K : PySem.W.Frag} {tb : (Value → St → Hp → Prop) → TS} {ths : List (Value × TS)} {D : Ib} {σ : St} {H : Hp} (h : ∀ N : Value → St → Hp → Prop, (∀ cls σ' H', tHs K ths cls D σ' H' → N cls σ' H') → tb N D σ H) : tTry K tb ths D σ H := h _ fun _ _ _ z => z
end L2
namespace TG
open PySem L2
theorem Kp.free {b P : Addr} {H H' : Hp} (k : Kp b P H H') (hb : ∃ u, H' b = some u) (hP : ∃ u, H' P = some u) {D : Addr} (n : H' D = none) : H D = none := by
 cases q : H D with
 | none => rfl
 | some u =>
  by_cases h1 : D = b
  ·obtain ⟨_, e⟩ := hb
   rw [← h1, n] at e; cases e
  ·by_cases h2 : D = P
   ·obtain ⟨_, e⟩ := hP
    rw [← h2, n] at e; cases e
   ·rw [k D u h1 h2 q] at n; cases n
theorem Bch.live {C : Addr} {H : Hp} {b S P : Addr} {ow : List Addr} {gs : List G} {past : List (List G)} (h : Bch C H b S P ow gs past) : (∃ u, H b = some u) ∧ ∃ u, H P = some u := by
 obtain ⟨_, e⟩ := h.at_
 obtain ⟨_, e2, _⟩ := h.pa
 exact ⟨⟨_, e⟩, ⟨_, e2⟩⟩
theorem FK {w : Str} {gs : List G} {past : List (List G)} {p : Int} (nb : w ≠ "back") : JO w gs past p = past ++ [gs] := if_neg nb
theorem FY {w : Str} {gs : List G} {past : List (List G)} {p x y : Int} (nb : w ≠ "back") (nt : w ≠ "take") : Eb w gs past p x y = Dd gs p [⟨p, (BS w gs p x y).1, (BS w gs p x y).2⟩] := by
 unfold Eb
 rw [if_neg nb, if_neg nt]
theorem MA {w : Str} {gs : List G} {past : List (List G)} {p x y : Int} (e : w = "take") : Eb w gs past p x y = Dd gs p [] := by
 unfold Eb
 rw [if_neg (by rw [e]; decide), if_pos e]
theorem KG {w : Str} {gs : List G} {p x y : Int} (e : w = "put") : BS w gs p x y = (x, y) := if_pos e
theorem MC {w : Str} {gs : List G} {p x y : Int} {g : G} (e : w = "lift") (hg : A9 gs p = some g) : BS w gs p x y = (g.f + x, g.h + y) := by
 unfold BS
 rw [if_neg (by rw [e]; decide), if_pos e, hg]
 rfl
theorem L5 {w : Str} {gs : List G} {p x y : Int} {g : G} (e : w = "sink") (hg : A9 gs p = some g) : BS w gs p x y = (g.f + -x, g.h + -y) := by
 unfold BS
 rw [if_neg (by rw [e]; decide), if_neg (by rw [e]; decide), if_pos e, hg]
 show (g.f - x, g.h - y) = _
 rw [Int.sub_eq_add_neg, Int.sub_eq_add_neg]
theorem QQ {w : Str} {gs : List G} {p x y : Int} {g : G} (e : w = "take") (hg : A9 gs p = some g) : BS w gs p x y = (g.f, g.h) := by
 unfold BS
 rw [if_neg (by rw [e]; decide), if_neg (by rw [e]; decide), if_neg (by rw [e]; decide), hg]
 rfl
theorem J0 {w : Str} {gs : List G} {past : List (List G)} {p x y : Int} (e : w = "put") : Be w gs past p x y = IM gs past p x y := by
 unfold Be
 rw [if_neg (by rw [e]; decide), if_pos e]
theorem IL {w : Str} {gs : List G} {past : List (List G)} {p x y : Int} (e : w = "take") : Be w gs past p x y = GG gs past p := by
 unfold Be
 rw [if_neg (by rw [e]; decide), if_neg (by rw [e]; decide), if_pos e]
theorem LY {w : Str} {gs : List G} {past : List (List G)} {p x y : Int} (e : w = "lift") : Be w gs past p x y = Dx gs past p x y := by
 unfold Be
 rw [if_neg (by rw [e]; decide), if_neg (by rw [e]; decide), if_neg (by rw [e]; decide), if_pos e]
theorem Ly {w : Str} {gs : List G} {past : List (List G)} {p x y : Int} (e : w = "sink") : Be w gs past p x y = Dx gs past p (-x) (-y) := by
 unfold Be
 rw [if_neg (by rw [e]; decide), if_neg (by rw [e]; decide), if_neg (by rw [e]; decide), if_neg (by rw [e]; decide)]
theorem IT {w : Str} {gs : List G} {past : List (List G)} {p x y : Int} (e : w = "back") : Be w gs past p x y = JY past p := if_pos e
theorem Wrd.last {w : Str} (h : Wrd w) (h1 : w ≠ "put") (h2 : w ≠ "take") (h3 : w ≠ "lift") (h4 : w ≠ "sink") : w = "back" := by
 rcases h with e | e | e | e | e
 ·exact absurd e h1
 ·exact absurd e h2
 ·exact absurd e h3
 ·exact absurd e h4
 ·exact e
end TG
namespace TG
open PySem L2
def DL (D L : Addr) (H H' : Hp) : Prop := ∀ a u, a ≠ D → a ≠ L → H a = some u → H' a = some u
theorem DL.of {D L : Addr} {H H' : Hp} (s : AL H H') : DL D L H H' := fun _ _ _ _ e => s _ _ e
theorem DL.trans {D L : Addr} {H H1 H2 : Hp} (a : DL D L H H1) (b : DL D L H1 H2) : DL D L H H2 := fun c u h1 h2 e => b c u h1 h2 (a c u h1 h2 e)
theorem DL.updD {D L : Addr} {H : Hp} {o : HO} : DL D L H (upd H D o) := fun _ _ h _ e => (AK h).trans e
theorem DL.updL {D L : Addr} {H : Hp} {o : HO} : DL D L H (upd H L o) := fun _ _ _ h e => (AK h).trans e
section
variable {C D L b S P : Addr} {ow : List Addr} {gs : List G} {past : List (List G)} {H H' : Hp} {kvs : List (Key × V)} {xs : List V}
theorem DL.tup (k : DL D L H H') (eD : H D = some (.dK kvs)) (eL : H L = some (.lst xs)) {a : Addr} {ys : List V} (e : H a = some (.tup ys)) : H' a = some (.tup ys) :=
 k a _ (Bv e eD fun z => by cases z) (Bv e eL fun z => by cases z) e
theorem DL.dk (k : DL D L H H') (eL : H L = some (.lst xs)) {a : Addr} {ys : List (Key × V)} (ha : a ≠ D) (e : H a = some (.dK ys)) : H' a = some (.dK ys) :=
 k a _ ha (Bv e eL fun z => by cases z) e
theorem Bch.dl (hb : Bch C H b S P ow gs past) (eD : H D = some (.dK kvs)) (eL : H L = some (.lst xs)) (hL : L ∉ ow) (k : DL D L H H') : Bch C H' b S P ow gs past :=
 hb.keep fun a u h e => by
  rcases h with h | h | ⟨ys, h⟩
  ·obtain ⟨dx, eb⟩ := hb.at_
   subst h
   exact k a u (Bv eb eD fun z => by cases z) (Bv eb eL fun z => by cases z) e
  ·obtain ⟨zs, ea⟩ := hb.lv a h
   exact k a u (Bv ea eD fun z => by cases z) (fun z => hL (z ▸ h)) e
  ·subst h
   exact k.tup eD eL e
theorem Kept.dl (eD : H D = some (.dK kvs)) (eL : H L = some (.lst xs)) (k : DL D L H H') (lD : ∃ u, H' D = some u) (lL : ∃ u, H' L = some u) : Kept (L :: ow) H H' (L :: ow) where
 tup := fun c ys e => k.tup eD eL e
 lst := fun c ys n e => k c _ (Bv e eD fun z => by cases z) (fun z => n (by rw [z]; exact List.mem_cons_self)) e
 frz := fun c o u e => k c _ (Bv e eD fun z => by cases z) (Bv e eL fun z => by cases z) e
 off := fun _ h => .inl h
 live := fun c u e => by
  by_cases h1 : c = D
  ·rw [h1]; exact lD
  ·by_cases h2 : c = L
   ·rw [h2]; exact lL
   ·exact ⟨u, k c u h1 h2 e⟩
 tbl := fun c ps e => k c _ (Bv e eD fun z => by cases z) (Bv e eL fun z => by cases z) e
theorem BB.copy {d d' : Addr} (h : BB H d gs) (e : H d = some (.dK kvs)) (e' : H' d' = some (.dK kvs)) (kt : ∀ a ys, H a = some (.tup ys) → H' a = some (.tup ys)) : BB H' d' gs := by
 obtain ⟨kvs', ks, e1, e2, p, q⟩ := h.at_
 rw [e] at e1
 cases e1
 exact ⟨kvs, ks, e', e2, p, fun g hg => (q g hg).imp fun a z => ⟨z.1, kt _ _ z.2⟩⟩
theorem BB.dl {d : Addr} (h : BB H d gs) (hd : d ≠ D) (eD : H D = some (.dK kvs)) (eL : H L = some (.lst xs)) (k : DL D L H H') : BB H' d gs :=
 h.keep (fun _ e => k.dk eL hd e) fun _ _ e => k.tup eD eL e
theorem Paired.dl {ds : List Addr} (pr : Paired (BB H) ds past) (hd : D ∉ ds) (eD : H D = some (.dK kvs)) (eL : H L = some (.lst xs)) (k : DL D L H H') : Paired (BB H') ds past :=
 Paired.keepM pr fun x y hx q => q.dl (D := D) (fun z => hd (by rw [← z]; exact hx)) eD eL k
end
end TG
namespace L2
theorem Uf {K : PySem.W.Frag} {H : Hp} {p : PySem.Addr} {kvs : List (Key × V)} (e : H p = some (.dK kvs)) : tyV K "dict" (.ref p) H := .inr (.inr (.inl ⟨rfl, .inl ⟨_, e⟩⟩))
theorem tyV_l {K : PySem.W.Frag} {H : Hp} {p : PySem.Addr} {xs : List V} (e : H p = some (.lst xs)) : tyV K "list" (.ref p) H := .inl ⟨rfl, _, SqL.of e⟩
end L2
namespace TG
open PySem L2
theorem RB {w : Str} {gs : List G} {past : List (List G)} {p x y : Int} {e : Err} (h : Be w gs past p x y = some e) : aft w gs past p x y = (gs, past) := by unfold aft; rw [h]
theorem Pu {w : Str} {gs : List G} {past : List (List G)} {p x y : Int} (h : Be w gs past p x y = none) : aft w gs past p x y = (Eb w gs past p x y, JO w gs past p) := by unfold aft; rw [h]
theorem Pd {K : PySem.W.Frag} {H H' : Hp} {a : Addr} {xs : List V} (h : SqT K H a xs) (k : ∀ ys, H a = some (.tup ys) → H' a = some (.tup ys)) (kf : ∀ o u, H a = some (.frz o u) → H' a = some (.frz o u)) : SqT K H' a xs := by
 rcases h with (h | ⟨o, h⟩) | h
 ·exact .inl (.inl (k _ h))
 ·exact .inl (.inr ⟨o, kf _ _ h⟩)
 ·exact .inr h
theorem Bch.sqt {K : PySem.W.Frag} {C : Addr} {H H' : Hp} {b S P : Addr} {ow : List Addr} {gs : List G} {past : List (List G)} (h : Bch C H b S P ow gs past) (k : Kp b P H H') {a : Addr} {xs : List V} (e : SqT K H a xs) : SqT K H' a xs :=
 Pd e (fun _ e => h.tup k e) fun _ _ e => k a _ (h.neb e fun _ _ _ z => by cases z) (h.nep e fun _ z => by cases z) e
theorem Kept.sqt {K : PySem.W.Frag} {ow ow' : List Addr} {H H' : Hp} (k : Kept ow H H' ow') {a : Addr} {xs : List V} (e : SqT K H a xs) : SqT K H' a xs := Pd e (fun _ e => k.tup _ _ e) fun _ _ e => k.frz _ _ _ e
end TG
set_option Elab.async false
set_option linter.all false
set_option maxRecDepth 100000
set_option maxHeartbeats 4000000
namespace L2
open PySem
def isInt : V → Bool
 | .int _ => true
 | _ => false
theorem Sx {l : List V} {e : Int} (h : l.all isInt = true) (h0 : 0 ≤ e) (h1 : e < l.length) : ∃ i, atI l e = some (.int i) := by
 have hj : e.toNat < l.length := by omega
 have hi := List.all_eq_true.mp h _ (List.getElem_mem hj)
 have q : atI l e = some l[e.toNat] := by
  obtain ⟨j, rfl⟩ : ∃ j : Nat, e = j := ⟨e.toNat, by omega⟩
  have hj' : j < l.length := by omega
  have z : ixN l.length (j : Int) = some j := by unfold ixN; simp; omega
  unfold atI
  rw [z]
  exact List.getElem?_eq_getElem hj'
 cases hv : l[e.toNat] with
 | int i => exact ⟨i, by rw [q, hv]⟩
 | _ => rw [hv] at hi; cases hi
end L2
namespace L2
theorem Ot {l : List V} {e : Int} {P : V → Prop} (h : l.all isInt = true) (h0 : 0 ≤ e) (h1 : e < l.length) (k : ∀ i, P (.int i)) : ∃ x, atI l e = some x ∧ P x := by
 obtain ⟨i, hi⟩ := Sx h h0 h1
 exact ⟨_, hi, k i⟩
end L2
namespace TG
open PySem L2
theorem SH {gs : List G} {past : List (List G)} {p x y : Int} (h : gs ≠ []) : (aft "lift" gs past p x y).1 ≠ [] := by
 cases he : Be "lift" gs past p x y with
 | some e => rw [RB he]; exact h
 | none =>
  rw [Pu he]
  show Eb "lift" gs past p x y ≠ []
  rw [FY (by decide) (by decide)]
  intro z
  have := (Gv (gs := gs) (p := p) (o := [⟨p, (BS "lift" gs p x y).1, (BS "lift" gs p x y).2⟩]) (g := ⟨p, (BS "lift" gs p x y).1, (BS "lift" gs p x y).2⟩)).mpr (.inr (List.mem_singleton.mpr rfl))
  rw [z] at this
  cases this
theorem XF {K : PySem.W.Frag} {H : Hp} {D : Addr} {gs : List G} (hd : BB H D gs) (l40 : gs.length ≤ 40) : ∃ (kvs : List (Key × V)) (ks : List Int), H D = some (.dK kvs) ∧ kvs.map (·.1) = ks.map Sum.inl ∧ ks.length = gs.length ∧ kvs.length = gs.length ∧ ks.length < 64 := by
 obtain ⟨kvs, ks, eD, e2, pm, _⟩ := hd.at_
 have lk := pm.length_eq
 rw [List.length_map] at lk
 have lkv : kvs.length = ks.length := by have := congrArg List.length e2; simpa using this
 exact ⟨kvs, ks, eD, e2, lk, by omega, by omega⟩
end TG
namespace L2
open PySem PySem.Spec PyProof.Rows
section
variable {X : Cx}
def Jb (K : PySem.W.Frag) : List V → Hp → VK → Prop := fun xs H Q => ∃ l, xs = [.ref l] ∧ ∃ ns : List Int, SqL K H l (ns.map V.int) ∧ ns.length < 4000 ∧
 ∀ (D : Addr) (H' : Hp) (S : Int → Bool) (n : Nat), H D = none → AL H H' → H' D = some (.set S n) → n ≤ ns.length → (n = ns.length ↔ ns.Nodup) → Q (.ref D) H'
def JW : List V → Hp → VK → Prop := fun xs H Q => ∃ a, xs = [V.ref a] ∧ ∃ (S : Int → Bool) (n : Nat), H a = some (.set S n) ∧ Q (.int n) H
end
end L2
namespace TG
open PySem L2
end TG
namespace L2
open PySem
end L2
namespace L2
open PySem PySem.Spec PyProof.Rows
section
variable {X : Cx}
def Il (K : PySem.W.Frag) : R2 := fun x y H Q => ∃ a b, x = .ref a ∧ y = .ref b ∧ ∃ ns : List Int, SqL K H a (ns.map V.int) ∧ ∃ ms : List Int, SqL K H b (ms.map V.int) ∧ Q (.bl (decide (ns = ms))) H
end
end L2
namespace TG
open PySem L2
end TG
namespace TG
end TG
namespace TG
open PySem L2
end TG
namespace TG
open PySem L2
end TG
namespace TG
open PySem L2
end TG
namespace TG
open PySem PySem.W L2
section
variable {K : Frag} {mg : Str → Option Value} {h : Heap}
theorem As {x : Str} {st : Stmt} {ps : List Str} (X : K.In h) (G : h.Ns mainGlobals mg) (e : BQ K x = A1 x x st [])
  (b : ∀ (kV doc pm : Value) (an : Option Addr) (cdv ct : Value) (us : List Value), us.length = ps.length → bindArgs (fnOf x x (Bq st) (BR st) (AH st) .none kV doc pm an cdv ct) ⟨us, []⟩ = pure (ps.zip us)) : ∃ f fd, D K mg x st ps f fd := by
 obtain ⟨f, oc, od, sl, kV, dc, pm, an, cd, ct, a, l, c, k⟩ := RC e
 exact ⟨f, _, Jz l c k, mg_of X G a, (Jz l c k).binds b⟩
theorem EX {C : Addr} {c x qual : Str} {st : Stmt} {ps : List Str} (hc : nsIn K mainGlobals c = some (some (.ref C))) (e : GM K c x qual = A1 x qual st [])
  (b : ∀ (kV doc pm : Value) (an : Option Addr) (cdv ct : Value) (us : List Value), us.length = ps.length → bindArgs (fnOf x qual (Bq st) (BR st) (AH st) .none kV doc pm an cdv ct) ⟨us, []⟩ = pure (ps.zip us)) : ∃ f fd, DM K C x qual st ps f fd := by
 obtain ⟨f, oc, od, sl, kV, dc, pm, an, cd, ct, a, i, l, c, k⟩ := T0 hc e
 exact ⟨f, _, Jz l c k, ⟨a, i, k⟩, (Jz l c k).binds b⟩
theorem UW {C : Addr} {c x qual : Str} {st : Stmt} {ps : List Str} {j : Int} (hc : nsIn K mainGlobals c = some (some (.ref C))) (e : GM K c x qual = A1 x qual st [j])
  (b : ∀ (s : Shared) (d : Addr) (kV doc pm : Value) (an : Option Addr) (cdv ct : Value) (cl : Value) (di : Option Addr) (n : Nat) (sl : Array (Option Value)) (tk : Tok) (us : List Value), s.heap.get? d = some ⟨cl, di, .seq #[.int j tk] n, sl⟩ → us.length = ps.length → BindsTo s (fnOf x qual (Bq st) (BR st) (AH st) (.ref d) kV doc pm an cdv ct) ⟨us, []⟩ (ps.zip us))
  (bd : ∀ (s : Shared) (d : Addr) (kV doc pm : Value) (an : Option Addr) (cdv ct : Value) (cl : Value) (di : Option Addr) (n : Nat) (sl : Array (Option Value)) (tk : Tok) (us : List Value), s.heap.get? d = some ⟨cl, di, .seq #[.int j tk] n, sl⟩ → us.length + 1 = ps.length → BindsTo s (fnOf x qual (Bq st) (BR st) (AH st) (.ref d) kV doc pm an cdv ct) ⟨us, []⟩ (ps.zip (us ++ [.int j tk]))) : ∃ f fd, DMD K C x qual st ps f fd [.int j] := by
 obtain ⟨f, oc, od, sl, d, kV, dc, pm, an, cd, ct, dcl, ddi, dn, dsl, tk, a, i, l, c, k, lt⟩ := TD hc e
 refine ⟨f, _, ⟨⟨_, _, _, _, _, _, _, _, _, _, rfl, l, c⟩, k⟩, ⟨a, i, k⟩, fun s us hK hl => ?_, ⟨[.int j tk], .cons ⟨_, rfl⟩ .nil, fun s us hK hl => ?_⟩⟩
 ·rw [List.append_nil] at hl ⊢
  exact b s d kV dc pm an cd ct dcl ddi dn dsl tk us (hK _ _ lt) hl
 ·exact bd s d kV dc pm an cd ct dcl ddi dn dsl tk us (hK _ _ lt) (by simpa using hl)
end
end TG
namespace TG
open PySem L2
def badT (a b c d : Int) : Prop := b < 1 ∨ d < 1 ∨ ∃ x ∈ [a, b, c, d], x < -999999999 ∨ 999999999 < x
def XH (a b c d : Int) (g : G) : Bool := decide (Pas a b c d g.p g.f g.h)
theorem OG {K : PySem.W.Frag} {a : Addr} {as : List Addr} {gs : List G} {te : TE} {tc : TT} {caps : St} {D : Addr} {H1 : Hp} {Q : Hp → Prop} (P : G → Bool) (f : G → V) (hl : SqL K H1 a (as.map V.ref)) (ga : Az H1 as gs) (hD : H1 D = none) (hz : gs.length ≤ 1000)
  (ht : ∀ v g H (R : Bool → Hp → Prop), g ∈ gs → AL H1 H → H v = some (.tup (G.vs g)) → (∀ H', AL H H' → R (P g) H') → tc (some (.ref v) :: caps) H R)
  (he : ∀ v g H (R : VK), g ∈ gs → AL H1 H → H v = some (.tup (G.vs g)) → R (f g) H → te (some (.ref v) :: caps) H R)
  (hd : ∀ H, AL H1 H → H D = some (.lst ((gs.filter P).map f)) → Q H) : Gd te tc caps (Itl K a) D H1 Q := by
 have la := ga.len
 refine B1 (xs := as.map V.ref) (fun i ys H => ys = ((gs.take i).filter P).map f ∧ AL H1 H ∧ H D = some (.lst ys)) ⟨rfl, BD hD, AO⟩ (fun _ _ H _ ⟨_, s1, _⟩ => s1.seq hl) ?_ ?_
 ·rintro i x ys H0 hx ⟨rfl, s0, e0⟩
  have hi : i < gs.length := by
   have := (List.getElem?_eq_some_iff.mp hx).1
   rw [List.length_map] at this
   omega
  obtain ⟨v, hv, t1⟩ := ga.get (List.getElem?_eq_getElem hi)
  have ex : x = V.ref v := by
   rw [List.getElem?_map, hv] at hx
   exact (Option.some.inj hx).symm
  subst ex
  have et : gs.take (i + 1) = gs.take i ++ [gs[i]] := List.take_succ_eq_append_getElem hi
  have hlen : (as.map V.ref).length = gs.length := by rw [List.length_map, la]
  have hle : (((gs.take i).filter P).map f).length ≤ i := by
   rw [List.length_map]
   exact Nat.le_trans (List.length_filter_le _ _) (List.length_take_le _ _)
  refine ht v gs[i] H0 _ (List.getElem_mem hi) s0 (s0.get t1) fun H s => ?_
  have s1 := s0.trans s
  have e1 := s.get e0
  by_cases hp : P gs[i] = true
  ·rw [if_pos hp]
   refine he v gs[i] H _ (List.getElem_mem hi) s1 (s1.get t1) ?_
   refine ⟨e1, by rw [PySem.sizeLine_eq]; omega, _, by omega, rfl, by omega, ?_, s1.updFresh hD, AO⟩
   rw [et, List.filter_append, List.filter_cons, if_pos hp, List.filter_nil, List.map_append]
   rfl
  ·rw [if_neg hp]
   refine ⟨_, by omega, rfl, by omega, ?_, s1, e1⟩
   rw [et, List.filter_append, List.filter_cons, if_neg hp, List.filter_nil, List.append_nil]
 ·rintro ys H ⟨rfl, s1, e1⟩
  rw [List.length_map, la, List.take_length] at e1
  exact hd H s1 e1
theorem T9 {a b c d : Int} (h1 : 1 ≤ b) (h2 : 1 ≤ d) (h3 : a.natAbs ≤ 999999999) (h4 : b.natAbs ≤ 999999999) (h5 : c.natAbs ≤ 999999999) (h6 : d.natAbs ≤ 999999999) : ¬ badT a b c d := by
 rintro (z | z | ⟨x, hx, z⟩)
 ·omega
 ·omega
 ·simp only [List.mem_cons, List.not_mem_nil, or_false] at hx
  rcases hx with rfl | rfl | rfl | rfl <;> omega
end TG
set_option Elab.async false
set_option linter.all false
set_option maxRecDepth 100000
namespace L2
open PySem PySem.Spec PyProof.Rows
section
variable {prog : Program} {w : World} {A : Around} {R : Result → Shared → Prop} {I : Addr} {fp wr : List Addr} {G : Array GenState → Array GenState → Prop} {n : Nat} {P : Nat → Value → Prop} {St : Nat → Shared → Prop}
end
section
variable {X : Cx}
end
end L2
namespace TG
open PySem L2
end TG
set_option Elab.async false
set_option linter.all false
set_option maxRecDepth 100000
set_option maxHeartbeats 4000000
namespace L2
open PySem PySem.Spec PyProof.Rows
section
variable {M : Model} {A : Around} {E : Value → Shared → Prop} {s : Shared} {B : Heap} {l : List Env} {ea : Addr} {kl a0 fl : Value}
end
section
variable {P : Program} {w : World} {K : PySem.W.Frag} {mg : Str → Option Value} {base : Heap} {N : List Str} {qual : Str} {scope : Scope} {f : Addr} {cd : Value} {A : Around} {outer : List Env} {s0 : Shared} {H0 : Hp} {E : XK}
 {pins pins' : List (Addr × Obj)} {σ σ' : St} {H H1 : Hp} {s s1 s' : Shared} {sc : Scope} {x : Str} {caps : List Str} {ix : List Nat}
end
section
variable {X : Cx} {pins : List (Addr × Obj)} {σ : St} {H : Hp} {s : Shared} {sc : Scope} {x : Str} {caps : List Str} {ix : List Nat}
end
section
variable {P : Program} {w : World} {K : PySem.W.Frag} {mg : Str → Option Value} {base : Heap} {N : List Str} {qual : Str} {scope : Scope} {f : Addr} {cd : Value} {A : Around} {outer : List Env} {s0 : Shared} {H0 : Hp} {E : XK}
 {sc : Scope} {x : Str} {caps : List Str} {ix : List Nat}
end
section
variable {X : Cx}
end
end L2
set_option Elab.async false
set_option linter.all false
set_option maxRecDepth 100000
set_option maxHeartbeats 4000000
namespace TG
open PySem L2
theorem SZ {gs : List G} (ok : ∀ g ∈ gs, OkG g) (ha : Asc gs) (nb : Jk gs) {x0 y0 : G} (hx0 : x0 ∈ gs) (hy0 : y0 ∈ gs) (l0 : x0.p < y0.p) : ∃ x ∈ gs, ∃ y ∈ gs, x.p < y.p ∧ ∀ g ∈ gs, Gf (x.f * y.p - y.h * x.p) (y.h - x.f) (y.p - x.p) g := by
 let ps : List (Int × Int) := gs.flatMap fun x => (gs.filter fun y => decide (x.p < y.p)).map fun y => (y.h - x.f, y.p - x.p)
 have mem : ∀ {x y : G}, x ∈ gs → y ∈ gs → x.p < y.p → (y.h - x.f, y.p - x.p) ∈ ps := fun {x y} hx hy l =>
  List.mem_flatMap.mpr ⟨x, hx, List.mem_map.mpr ⟨y, List.mem_filter.mpr ⟨hy, decide_eq_true l⟩, rfl⟩⟩
 have inv : ∀ z ∈ ps, ∃ x ∈ gs, ∃ y ∈ gs, x.p < y.p ∧ z = (y.h - x.f, y.p - x.p) := fun z hz => by
  obtain ⟨x, hx, h2⟩ := List.mem_flatMap.mp hz
  obtain ⟨y, hy, rfl⟩ := List.mem_map.mp h2
  obtain ⟨h3, h4⟩ := List.mem_filter.mp hy
  exact ⟨x, hx, y, h3, of_decide_eq_true h4, rfl⟩
 obtain ⟨z, hz, hm⟩ := IY ps (fun e => by have := mem hx0 hy0 l0; rw [e] at this; simp at this) (fun z hz => by
  obtain ⟨x, _, y, _, l, rfl⟩ := inv z hz
  show 0 < y.p - x.p
  omega)
 obtain ⟨x, hx, y, hy, l, rfl⟩ := inv z hz
 refine ⟨x, hx, y, hy, l, IQ ok hx hy l (fun x' hx' y' hy' l' => hm _ (mem hx' hy' l')) (fun g hg g' hg' e => Io ha hg hg' e) (fun m hm l1 hb => ?_) (fun m hm l1 hb => ?_)⟩
 ·exact EC ha nb hm hx hy l1 l (.inl hb)
 ·exact EC ha nb hx hy hm l l1 (.inr hb)
structure Uj (gs : List G) (ts : List Thr) : Prop where
 ne : ts ≠ []
 ok : ∀ t ∈ ts, OkT t
 one : ∃ t ∈ ts, ∃ g ∈ gs, t.pas g
 two : ∀ x ∈ gs, ∀ y ∈ gs, x.p < y.p → ∃ t ∈ ts, ∀ g : G, t.pas g ↔ Gf (x.f * y.p - y.h * x.p) (y.h - x.f) (y.p - x.p) g
def S2 (gs : List G) (t : Thr) : Nat := (gs.filter fun g => decide (t.pas g)).length
theorem QC {gs : List G} {ts : List Thr} {t : Thr} (T : Uj gs ts) (ok : ∀ g ∈ gs, OkG g) (ha : Asc gs) (best : ∀ t' ∈ ts, S2 gs t' ≤ S2 gs t) (u w m : Int) (hm : 0 < m) (ps : List G) (hs : ps.Sublist gs) (hp : ∀ g ∈ ps, Gf u w m g) : ps.length ≤ S2 gs t := by
 match ps, hs, hp with
 | [], _, _ => exact Nat.zero_le _
 | [x], _, _ =>
  obtain ⟨t', ht, g, hg, p⟩ := T.one
  have : 0 < S2 gs t' := List.length_pos_iff.mpr fun z => by
   have : g ∈ gs.filter fun g => decide (t'.pas g) := List.mem_filter.mpr ⟨hg, decide_eq_true p⟩
   rw [z] at this
   exact absurd this (by simp)
  exact Nat.le_trans this (best t' ht)
 | x0 :: y0 :: r, hs, hp =>
  generalize hr : x0 :: y0 :: r = ps at *
  have ap : Asc ps := List.Pairwise.sublist hs ha
  have hx0 : x0 ∈ ps := by rw [← hr]; simp
  have hy0 : y0 ∈ ps := by rw [← hr]; simp
  have l0 : x0.p < y0.p := by
   rw [← hr] at ap
   exact (List.pairwise_cons.mp ap).1 y0 (by simp)
  obtain ⟨x, hx, y, hy, l, all⟩ := SZ (fun g hg => ok g (hs.subset hg)) ap (QM ap hm hp) hx0 hy0 l0
  obtain ⟨t', ht, hpas⟩ := T.two x (hs.subset hx) y (hs.subset hy) l
  have hf := hs.filter fun g => decide (t'.pas g)
  rw [List.filter_eq_self.mpr fun g hg => decide_eq_true ((hpas g).mpr (all g hg))] at hf
  exact Nat.le_trans hf.length_le (best t' ht)
end TG
set_option maxRecDepth 100000
set_option maxHeartbeats 4000000
namespace LM
open PySem PySem.Spec PySem.Calls PyProof.Rows PySem.W L2
abbrev G6 (x : Str) (p1 p2 p3 p4 p5 : Pos) : Expr := .Call (.Name "len" p1) [.Subscript (.Name x p2) (.Constant (.int 0) 0 p3) p4] [] p5
section
variable {prog : Program} {w : World} {A : Around} {E : Value → Shared → Prop} {s : Shared}
theorem Sc {q t l c' : Addr} {x name qual : Str} {params : Arguments} {scope : Scope} {pm ctv : Value} {p1 p2 p3 p4 p5 : Pos} {mg mb : Str → Option Value} {its lits : Array Value} {Q : Value → Shared → Prop}
  (hq : s.heap.get? q = some (kla_obj name qual params (G6 x p1 p2 p3 p4 p5) scope [] pm c' ctv)) (hcd : s.heap.CodeRec (.ref c') qual) (hroom : A.in1.depth < recursionLimit)
  (hbind : ∀ v, bindArgs (kla_fn name qual params (G6 x p1 p2 p3 p4 p5) scope [] pm (.ref c') ctv) ⟨[v], []⟩ = pure [(x, v)])
  (hx : scope.names.lookup x = some .local) (hl : scope.names.lookup ("len" : Str) = some .globalImplicit) (hcell : ∀ y ∈ scope.names, y.2 ≠ .cell) (hk : scope.kind = .function) (hco : scope.isCoroutine = false) (hgen : scope.isGenerator = false)
  (hdx : (x == ("__debug__" : Str)) = false)
  (hg : s.heap.Ns mainGlobals mg) (hm : mg "len" = none) (hb : s.heap.Ns builtinsNs mb) (hbb : mb "len" = bootBuiltins "len") (hlim : s.heap.NoLimit)
  (ht : IsTup s.heap t its) (h0 : its[0]? = some (.ref l)) (hsz : its.size ≤ sizeLine) (hls : s.heap.IsList l lits) (hlz : lits.size ≤ sizeLine)
  (h : ∀ h' tk u, (∀ b o, s.heap.get? b = some o → h'.get? b = some o) → Q (.int lits.size u) { s with heap := h', toks := tk }) :
  wpAny (model prog w) A.in1 (call (.ref q) [.ref t]) Q E s := by
 refine wpAny_call ?_
 refine kla_callFunE hroom hq rfl hco hgen rfl hcd ?_
 rw [hbind]
 refine wpAny_pure (wpAny_newFunctionEnv hcell (by intro y hy; rw [List.mem_singleton.mp hy]; exact hx) (fun h₁ hns hsb => ?_) hk)
 have hk₁ : ∀ b o, s.heap.get? b = some o → h₁.get? b = some o := fun b o e => hsb.extBut b o (Nat.ne_of_lt (Heap.lt_size e)) (Heap.get?_push_of_some _ e)
 refine ⟨hlim.keeps hk₁, ?_⟩
 refine kla_codeExpr ?_
 refine wpAny_Call_Name_kw (Calls.Name_function_global hk hl (Calls.loadGlobal_builtin (hg.keeps hk₁) hm (hb.keeps hk₁) (hbb.trans rfl) ?_) (by decide))
 refine PyProof.Rows.callWith_builtin1 ?_ rfl rfl
 show wpAny _ _ (spliced ((false, eval (.Subscript (.Name x p2) (.Constant (.int 0) 0 p3) p4) _) :: [])) _ _ _
 refine Calls.spliced_cons ?_
 refine Subscript_ (wpAny_Name (wpAny_loadName_local (v := .ref t) hk hx hns (by simp) ?_) hdx)
 refine wpAny_Constant_int ?_
 have ht' := ht.keeps hk₁
 have hls' : h₁.IsList l lits := by obtain ⟨o, e, r⟩ := hls; exact ⟨o, hk₁ _ _ e, r⟩
 have hn := LI
 refine subscriptTail_builtinR (x := .ref l) ht'.typeIs slot_tuple_getitem.lookup
  (getItem_tuple (j := 0) ht' (by decide) (by decide) (seqIndex_of (by decide) ?_) h0 ⟨rfl, ?_⟩)
 ·have : 0 < its.size := by
   rcases Nat.eq_zero_or_pos its.size with z | z
   ·rw [Array.getElem?_eq_none (by omega)] at h0; cases h0
   ·exact z
  omega
 refine Calls.spliced_nil ?_
 exact Calls.call_len_list hls' (by omega) (h _ _ _ hk₁)
theorem T1 {L l q c' : Addr} {m : Str → Option Value} {x name qual : Str} {params : Arguments} {scope : Scope} {pm ctv : Value} {p1 p2 p3 p4 p5 : Pos} {mg mb : Str → Option Value} {vs : List Value} {kf : Nat → Nat} {Q : Value → Shared → Prop}
  (hL : s.heap.Ns L m) (hqL : q ≠ L) (hcL : c' ≠ L) (hh : A.handled = none) (hgL : mainGlobals ≠ L) (hbL : builtinsNs ≠ L)
  (hq : s.heap.get? q = some (kla_obj name qual params (G6 x p1 p2 p3 p4 p5) scope [] pm c' ctv)) (hcd : s.heap.CodeRec (.ref c') qual) (hroom : A.in1.depth < recursionLimit)
  (hbind : ∀ v, bindArgs (kla_fn name qual params (G6 x p1 p2 p3 p4 p5) scope [] pm (.ref c') ctv) ⟨[v], []⟩ = pure [(x, v)])
  (hx : scope.names.lookup x = some .local) (hl : scope.names.lookup ("len" : Str) = some .globalImplicit) (hcell : ∀ y ∈ scope.names, y.2 ≠ .cell) (hk : scope.kind = .function) (hco : scope.isCoroutine = false) (hgen : scope.isGenerator = false)
  (hdx : (x == ("__debug__" : Str)) = false)
  (hg : s.heap.Ns mainGlobals mg) (hm : mg "len" = none) (hb : s.heap.Ns builtinsNs mb) (hbb : mb "len" = bootBuiltins "len") (hlim : ∀ h : Heap, (∀ b o, b ≠ L → s.heap.get? b = some o → h.get? b = some o) → h.NoLimit)
  (hll : s.heap.IsList l vs.toArray) (hlL : l ≠ L) (hne : 0 < vs.length)
  (hvs : ∀ (i : Nat) (v : Value), vs[i]? = some v → ∃ t pl its lits, v = .ref t ∧ t ≠ L ∧ pl ≠ L ∧ IsTup s.heap t its ∧ its[0]? = some (.ref pl) ∧ its.size ≤ sizeLine ∧ s.heap.IsList pl lits ∧ lits.size ≤ sizeLine ∧ lits.size = kf i)
  (h : ∀ i v h' tk', vs[i]? = some v → (∀ j, j < vs.length → kf j ≤ kf i ∧ (j < i → kf j < kf i)) → h'.Ns L m → (∀ b o, b ≠ L → s.heap.get? b = some o → h'.get? b = some o) → Q v { s with heap := h', toks := tk' }) :
  wpAny (model prog w) A (call (.builtin "max") [.ref l] [(Str.ofString "key", .ref q)]) Q E s := by
 obtain ⟨oL, _, _, hoL, _⟩ := id hL
 have hN : News (Att.noObjs s.heap) L s.heap (Att.ledger s.heap L L) := fun ⟨a, o⟩ hp => ⟨(Att.mem_ledger.mp hp).2.2, (Att.mem_ledger.mp hp).1, Att.noObjs_get _ _⟩
 have kOf : ∀ {h : Heap} {own : List (Addr × Obj)}, News (Att.noObjs s.heap) L h (Att.ledger s.heap L L ++ own) → ∀ b o, b ≠ L → s.heap.get? b = some o → h.get? b = some o :=
  fun N b o nb e => (N (b, o) (List.mem_append_left _ (Att.mem_ledger.mpr ⟨nb, nb, e⟩))).1
 have kOf' : ∀ {h : Heap}, News (Att.noObjs s.heap) L h (Att.ledger s.heap L L) → ∀ b o, b ≠ L → s.heap.get? b = some o → h.get? b = some o :=
  fun N b o nb e => (N (b, o) (Att.mem_ledger.mpr ⟨nb, nb, e⟩)).1
 refine kmk_max (fun i => (kf i : Int)) hh (Att.fr_all hL) hN (fun h' F N => ?_) hne (fun i v hv h' tk own F N => ?_) fun i v h' tk' hv hbest F N => ?_
 ·obtain ⟨o, e, r⟩ := hll
  exact ⟨o, kOf' N _ _ hlL e, r⟩
 ·obtain ⟨t, pl, its, lits, rfl, ntL, nplL, ht, h0, hsz, hpl, hlz, hkf⟩ := hvs i v hv
  have k := kOf N
  refine Sc (s := { s with heap := h', toks := tk }) (its := its) (lits := lits) (l := pl) (mg := mg) (mb := mb) (k _ _ hqL hq) ?_ hroom hbind hx hl hcell hk hco hgen hdx ?_ hm ?_ hbb (hlim h' k) ?_ h0 hsz ?_ hlz fun h'' tk2 u k2 => ?_
  ·obtain ⟨c, oc, vs, tq, hc, hoc, r⟩ := hcd
   cases hc
   exact ⟨c', oc, vs, tq, rfl, k _ _ hcL hoc, r⟩
  ·obtain ⟨o, es, ep, e, r⟩ := hg
   exact ⟨o, es, ep, k _ _ hgL e, r⟩
  ·obtain ⟨o, es, ep, e, r⟩ := hb
   exact ⟨o, es, ep, k _ _ hbL e, r⟩
  ·obtain ⟨o, e, r⟩ := ht
   exact ⟨o, k _ _ ntL e, r⟩
  ·obtain ⟨o, e, r⟩ := hpl
   exact ⟨o, k _ _ nplL e, r⟩
  ·rw [hkf]
   refine ⟨h'', tk2, u, rfl, rfl, ⟨F.ns.keeps k2, fun b o e => ?_, F.above⟩, fun p hp => ⟨k2 _ _ (N p hp).1, (N p hp).2⟩⟩
   rw [Att.noObjs_get] at e; cases e
 ·exact h i v h' tk' hv (fun j hj => by have := hbest j hj; exact ⟨by have := this.1; omega, fun z => by have := this.2 z; omega⟩) F.ns (kOf' N)
end
def Tbl (H : Hp) (P : Addr) (pos : Pos) (qual : Str) : Prop :=
 H P = some (.tbl #[]) ∨ ∃ c o u vs t, H P = some (.tbl #[rawInt pos.line, rawInt pos.col, .ref c]) ∧ H c = some (.frz o u) ∧ o.data = .fields vs ∧ vs[1]? = some (.str qual t)
theorem Tbl.tab {H : Hp} {P : Addr} {pos : Pos} {qual : Str} (h : Tbl H P pos qual) : ∃ ps, H P = some (.tbl ps) := by
 rcases h with h | ⟨c, _, _, _, _, h, _⟩
 ·exact ⟨_, h⟩
 ·exact ⟨_, h⟩
section
variable {X : Cx} {pins : List (Addr × Obj)} {σ : L2.St} {H : Hp} {s : Shared} {h' : Heap}
theorem Su {h h' : Heap} {L : Addr} {m m' : Str → Option Value} (a : h.Ns L m) (b : h'.Ns L m) (c : h.Ns L m') : h'.Ns L m' := by
 rw [c.eq_nsMap, ← a.eq_nsMap]; exact b
theorem keptL {t' : Nat} {m : Str → Option Value} (I : Inv X pins σ H s) (hm : s.heap.Ns X.env.locals m) (hm' : h'.Ns X.env.locals m) (k : ∀ b o, b ≠ X.env.locals → s.heap.get? b = some o → h'.get? b = some o) : Inv X pins σ H { s with heap := h', toks := t' } := by
 have nL : ∀ b u, H b = some u → b ≠ X.env.locals := fun b u e z => by rw [z, I.free] at e; cases e
 refine I.step (g' := s.gens) (d' := s.drawn) (ch := []) (fun _ z => nomatch z) (fun b o hb _ _ e _ => k b o hb e) (fun b o hb _ _ e _ => ⟨o.slots, k b o hb e⟩) (fun _ _ _ _ n => n) (fun b o _ e => ?_) (fun _ _ e => e) (fun _ _ _ e => e) (fun b ps e => ⟨#[], by rw [e]; simp⟩) (fun m2 h2 => Su hm hm' h2) (fun b u e => ?_) I.bare
 ·by_cases hb : b = X.env.locals
  ·obtain ⟨o', _, _, e', _⟩ := hm'
   exact ⟨o', by rw [hb]; exact e'⟩
  ·exact ⟨o, k b o hb e⟩
 ·refine (I.hok b u e).stay (fun c v hc q => k c v ?_ q) (fun _ q => q) fun _ _ q => q
  rcases hc with rfl | hc
  ·exact nL _ _ e
  ·exact nL _ _ hc
theorem VN {t' : Nat} {m : Str → Option Value} {P c : Addr} {ps : Array Value} {v : Value} {l1 l2 : Value} {oc : Obj} (I : Inv X pins σ H s) (hP : H P = some (.tbl ps)) (hc : s.heap.objs.size ≤ c) (hcL : c ≠ X.env.locals) (hm : s.heap.Ns X.env.locals m) (hm' : h'.Ns X.env.locals m)
  (k : ∀ b o, b ≠ X.env.locals → b ≠ P → s.heap.get? b = some o → h'.get? b = some o) (kP : h'.get? P = some (PySem.W.tabObj (ps ++ #[l1, l2, v]))) (kc : h'.get? c = some oc) :
  Inv X pins σ (upd (upd H P (.tbl (ps ++ #[l1, l2, v]))) c (.frz oc (.ext fun _ => True))) { s with heap := h', toks := t' } := by
 have nL : ∀ b u, H b = some u → b ≠ X.env.locals := fun b u e z => by rw [z, I.free] at e; cases e
 have nc : ∀ b u, H b = some u → b ≠ c := fun b u e z => by rw [z, I.hok.fresh hc] at e; cases e
 have nc' : ∀ b o, s.heap.get? b = some o → b ≠ c := fun b o e => Nat.ne_of_lt (Nat.lt_of_lt_of_le (Heap.lt_size e) hc)
 have nP : ∀ b, H b = none → b ≠ P := fun b e z => by rw [z, hP] at e; cases e
 have get : ∀ b u, H b = some u → b ≠ P → upd (upd H P (.tbl (ps ++ #[l1, l2, v]))) c (.frz oc (.ext fun _ => True)) b = some u := fun b u e z => by rw [AK (nc b u e), AK z]; exact e
 refine I.step (g' := s.gens) (d' := s.drawn) (ch := []) (fun _ z => nomatch z) (fun b o hb _ _ e n => k b o hb (nP b n) e) (fun b o hb _ _ e n => ⟨o.slots, k b o hb (nP b n) e⟩) (fun b o _ e n => by rw [AK (nc' b o e), AK (nP b n)]; exact n) (fun b o _ e => ?_)
  (fun b xs e => get b _ e fun z => by rw [z, hP] at e; cases e) (fun b o u e => get b _ e fun z => by rw [z, hP] at e; cases e) (fun b qs e => ?_) (fun m2 h2 => Su hm hm' h2) (fun b u e => ?_) I.bare
 ·by_cases hb : b = X.env.locals
  ·obtain ⟨o', _, _, e', _⟩ := hm'
   exact ⟨o', by rw [hb]; exact e'⟩
  ·by_cases hb2 : b = P
   ·exact ⟨_, by rw [hb2]; exact kP⟩
   ·exact ⟨o, k b o hb hb2 e⟩
 ·by_cases hb : b = P
  ·subst hb
   rw [hP] at e; cases e
   exact ⟨#[l1, l2, v], by rw [AK (nc b _ hP), AO]⟩
  ·exact ⟨#[], by rw [get b _ e hb]; simp⟩
 ·by_cases hb : b = c
  ·subst hb
   rw [AO] at e; cases e
   exact ⟨kc, trivial, ⟨_, kc⟩, fun _ _ _ _ => trivial⟩
  ·rw [AK hb] at e
   by_cases hb2 : b = P
   ·subst hb2
    rw [AO] at e; cases e
    exact kP
   ·rw [AK hb2] at e
    refine (I.hok b u e).stay (fun d w hd q => k d w ?_ ?_ q) (fun d q => get d _ q fun z => by rw [z, hP] at q; cases q) fun d xs q => get d _ q fun z => by rw [z, hP] at q; cases q
    ·rcases hd with rfl | hd
     ·exact nL _ _ e
     ·exact nL _ _ hd
    ·rcases hd with rfl | hd
     ·exact hb2
     ·intro z; rw [z, hP] at hd; cases hd
end
structure Pl (K : PySem.W.Frag) (mg : Str → Option Value) (cd : Value) (c P : Addr) : Prop where
 cd : cd = .ref c
 hd : ∀ h, K.In h → PySem.W.CodeHd h c P
 bm : ∀ h, K.In h → ∃ bm o, mg "__builtins__" = some (.ref bm) ∧ bm ≠ builtinsNs ∧ bm ≠ mainGlobals ∧ h.get? bm = some o ∧ o.cls = .type "module" ∧ o.dict = some builtinsNs ∧ o.data = .plain
structure LamOk (x : Str) (params : Arguments) (scope : Scope) : Prop where
 df : params.defaults = []
 kd : params.kw_defaults = []
 bind : ∀ name qual body cl pm cdv ct v, bindArgs (kla_fn name qual params body scope cl pm cdv ct) ⟨[v], []⟩ = pure [(x, v)]
 hx : scope.names.lookup x = some .local
 hl : scope.names.lookup ("len" : Str) = some .globalImplicit
 cell : ∀ y ∈ scope.names, y.2 ≠ .cell
 kind : scope.kind = .function
 co : scope.isCoroutine = false
 gen : scope.isGenerator = false
 db : (x == ("__debug__" : Str)) = false
 clos : ∀ env, closureFor scope env = pure []
def tMaxK (K : PySem.W.Frag) (P : Addr) (lpos : Pos) (qual : Str) (t : TE) : TE := fun σ H Q => t σ H fun v H1 => ∃ (l : Addr) (xs : List V) (kf : Nat → Nat), v = .ref l ∧ SqL K H1 l xs ∧ 0 < xs.length ∧ Tbl H1 P lpos qual ∧
 (∀ i y, xs[i]? = some y → ∃ p pl z ys, y = .ref p ∧ SqT K H1 p (.ref pl :: z) ∧ SqL K H1 pl ys ∧ ys.length = kf i) ∧
 ∀ i y H2, xs[i]? = some y → (∀ j, j < xs.length → kf j ≤ kf i ∧ (j < i → kf j < kf i)) → Tbl H2 P lpos qual → (∀ b u, b ≠ P → H1 b = some u → H2 b = some u) → Q y H2
section
variable {X : Cx}
theorem UP {c P : Addr} {x : Str} {e : Expr} {te : TE} {params : Arguments} {scope : Scope} {p p1 p2 p3 p4 p5 lpos kp pos : Pos} (hg : Gl X "max") (hm : X.mg "max" = none) (hml : X.mg "len" = none) (hr : CT 2 X.A) (LA : Pl X.K X.mg X.env.code c P) (LO : LamOk x params scope) (hpe : PE X e te)
  (hse : starEach [e] X.env = (false, eval e X.env) :: starEach [] X.env := by rfl) :
  PE X (.Call (.Name "max" p) [e] [⟨some "key", .Lambda params (G6 x p1 p2 p3 p4 p5) scope lpos, kp⟩] pos) (tMaxK X.K P lpos (X.env.qual ++ "<lambda>") te) := by
 intro pins s σ H Q I h
 refine wpAny_Call_Name_kw (IX I hg hm (u := .builtin "max") rfl ?_)
 refine callWith_kw ?_ (by rw [hse]; rfl) (by rw [hse]; rfl) rfl rfl
 rw [hse]
 show wpAny _ _ (spliced ((false, eval e X.env) :: [])) _ _ s
 refine Calls.spliced_cons (thn (hpe pins s σ H _ I h) fun u s1 ⟨v, H1, I1, r1, q1⟩ => Calls.spliced_nil ?_)
 obtain ⟨l, xs, kf, rfl, hl, h0, tb, hxs, k⟩ := q1
 cases r1
 refine kws_cons (kla_eval (by rw [defaultsOf_eq, LO.df, LO.kd]; rfl) ?_)
 obtain ⟨its, ri, pl, hz⟩ := I1.list hl
 obtain ⟨m, hn, hlook⟩ := id I1.loc
 obtain ⟨mb, hb1, hb2⟩ := I1.mod.blt
 have hG := I1.mod.glob.keeps I1.bk
 have hB := hb1.keeps I1.bk
 obtain ⟨ps, hP⟩ := tb.tab
 have gP : s1.heap.get? P = some (PySem.W.tabObj ps) := I1.hok P _ hP
 have nLP : X.env.locals ≠ P := fun z => by have := I1.free; rw [z, hP] at this; cases this
 have bP : ∀ b o, X.base.get? b = some o → b ≠ P := fun b o e z => by have := (I1.bs b o e).2; rw [z, hP] at this; cases this
 have bL : ∀ b o, X.base.get? b = some o → b ≠ X.env.locals := fun b o e => Nat.ne_of_lt (Nat.lt_of_lt_of_le (Heap.lt_size e) (Nat.le_trans I1.ok.bsz I1.ok.above))
 have gM : ∃ o, X.base.get? mainGlobals = some o := let ⟨o, _, _, e, _⟩ := I1.mod.glob; ⟨o, e⟩
 have gB : ∃ o, X.base.get? builtinsNs = some o := let ⟨o, _, _, e, _⟩ := hb1; ⟨o, e⟩
 have lstN : ∀ a its, s1.heap.IsList a its → a ≠ P ∧ a ≠ X.env.locals := fun a its ⟨o, e, c1, n, d1⟩ => by
  refine ⟨fun z => ?_, fun z => ?_⟩
  ·rw [z, gP] at e; cases e; cases c1
  ·obtain ⟨o', _, _, e', d', _⟩ := id hn
   rw [z, e'] at e; cases e; rw [d'] at d1; cases d1
 have tupN : ∀ a its, IsTup s1.heap a its → a ≠ P ∧ a ≠ X.env.locals := fun a its ⟨o, e, c1, n, d1⟩ => by
  refine ⟨fun z => ?_, fun z => ?_⟩
  ·rw [z, gP] at e; cases e; cases c1
  ·obtain ⟨o', _, _, e', d', _⟩ := id hn
   rw [z, e'] at e; cases e; rw [d'] at d1; cases d1
 have run : ∀ (h2 : Heap) (tk : Nat) (q c' : Addr) (ctv : Value), (∀ b o, b ≠ P → s1.heap.get? b = some o → h2.get? b = some o) → q ≠ X.env.locals → c' ≠ X.env.locals →
   h2.get? q = some (kla_obj "<lambda>" (X.env.qual ++ "<lambda>") params (G6 x p1 p2 p3 p4 p5) scope [] ((X.mg "__name__").getD .none) c' ctv) → h2.CodeRec (.ref c') (X.env.qual ++ "<lambda>") →
   (∀ (h3 : Heap) (tk3 : Nat), h3.Ns X.env.locals m → (∀ b o, b ≠ X.env.locals → h2.get? b = some o → h3.get? b = some o) → ∃ H2, Inv X pins σ H2 { s1 with heap := h3, toks := tk3 } ∧ Tbl H2 P lpos (X.env.qual ++ "<lambda>") ∧ ∀ b u, b ≠ P → H1 b = some u → H2 b = some u) →
   wpAny (model X.prog X.w) X.A (call (.builtin "max") [.ref l] [(Str.ofString "key", .ref q)]) (EP X pins σ Q) X.xe { s1 with heap := h2, toks := tk } := by
  intro h2 tk q c' ctv k2 hqL hcL hq hcd fin
  have ll := lstN l _ pl.isList
  refine T1 (s := { s1 with heap := h2, toks := tk }) (L := X.env.locals) (m := m) (mg := X.mg) (mb := mb) (vs := its) (kf := kf) ?_ hqL hcL hr.hd ?_ ?_ hq hcd ?_ (fun v => LO.bind _ _ _ _ _ _ _ v) LO.hx LO.hl LO.cell LO.kind LO.co LO.gen LO.db ?_ hml ?_ (hb2 _ (by decide)) (fun h3 k3 => ?_) ?_ ll.2 ?_ (fun i v hv => ?_) fun i v h3 tk3 hv best hns k3 => ?_
  ·obtain ⟨o, es, ep, e, r⟩ := hn
   exact ⟨o, es, ep, k2 _ _ nLP e, r⟩
  ·obtain ⟨o, e⟩ := gM
   exact bL _ _ e
  ·obtain ⟨o, e⟩ := gB
   exact bL _ _ e
  ·have := hr.dp
   show X.A.depth < _
   omega
  ·exact I1.mod.glob.keeps fun b o e => k2 b o (bP b o e) (I1.bk b o e)
  ·exact hb1.keeps fun b o e => k2 b o (bP b o e) (I1.bk b o e)
  ·exact I1.mod.nolimit.keeps fun b o e => k3 b o (bL b o e) (k2 b o (bP b o e) (I1.bk b o e))
  ·obtain ⟨o, e, r⟩ := pl.isList
   exact ⟨o, k2 _ _ ll.1 e, r⟩
  ·rw [← ri.length]; exact h0
  ·have hi := (List.getElem?_eq_some_iff.mp hv).1
   have hi' : i < xs.length := by rw [ri.length]; exact hi
   obtain ⟨v', ev', rv'⟩ := ri.get (List.getElem?_eq_getElem hi')
   rw [hv] at ev'; cases ev'
   obtain ⟨pp, pa, z, ys, ey, hT, hLs, hlen⟩ := hxs i _ (List.getElem?_eq_getElem hi')
   rw [ey] at rv'
   cases rv'
   obtain ⟨it2, r2, pt, hz2⟩ := I1.tuple hT
   obtain ⟨it3, r3, pl3, hz3⟩ := I1.list hLs
   obtain ⟨w0, ew0, rw0⟩ := r2.get (i := 0) (x := .ref pa) rfl
   cases rw0
   have t1 := tupN _ _ pt
   have t2 := lstN _ _ pl3.isList
   refine ⟨pp, pa, it2.toArray, it3.toArray, rfl, t1.2, t2.2, ?_, by simpa using ew0, ?_, ?_, ?_, ?_⟩
   ·obtain ⟨o, e, r⟩ := pt
    exact ⟨o, k2 _ _ t1.1 e, r⟩
   ·rw [List.size_toArray, ← r2.length]; exact hz2
   ·obtain ⟨o, e, r⟩ := pl3.isList
    exact ⟨o, k2 _ _ t2.1 e, r⟩
   ·rw [List.size_toArray, ← r3.length]; exact hz3
   ·rw [List.size_toArray, ← r3.length]; exact hlen
  ·have hi := (List.getElem?_eq_some_iff.mp hv).1
   have hi' : i < xs.length := by rw [ri.length]; exact hi
   obtain ⟨v', ev', rv'⟩ := ri.get (List.getElem?_eq_getElem hi')
   rw [hv] at ev'; cases ev'
   obtain ⟨H2, I2, tb2, s2⟩ := fin h3 tk3 hns k3
   exact ⟨_, H2, I2, rv', k i _ H2 (List.getElem?_eq_getElem hi') (fun j hj => best j (by rw [← ri.length]; exact hj)) tb2 s2⟩
 obtain ⟨bm, ob, b1, b2, b3, b4, b5⟩ := LA.bm _ I1.mod.kin
 have hBA : s1.heap.BuiltinsAt X.mg P := ⟨bm, ob, b1, b2, b3, bP _ _ b4, I1.bk _ _ b4, b5⟩
 have hCH : PySem.W.CodeHd s1.heap c P := LA.hd _ I1.kIn
 have hgP : mainGlobals ≠ P := let ⟨_, e⟩ := gM; bP _ _ e
 have lL : X.env.locals < s1.heap.objs.size := I1.lt
 rcases id tb with tb0 | ⟨c0, o0, u0, vs0, t0, e1, e2, e3, e4⟩
 ·-- the first call
  rw [hP] at tb0; cases tb0
  refine kla_makeFunction (LO.clos _) I1.ok.glob hG LA.cd hCH gP trivial rfl hgP hBA fun c' ctv h' tk hx hge hlt hrec htb => ?_
  refine kws_nil ?_
  obtain ⟨c2, oc, vs2, t2, ec, goc, hd2, hv2⟩ := id hrec
  cases ec
  have ncP : c' ≠ P := Nat.ne_of_gt (Nat.lt_of_lt_of_le (Heap.lt_size gP) hge)
  refine run _ _ _ c' ctv (fun b o n e => Heap.get?_push_of_some _ (hx b o n e)) ?_ (Nat.ne_of_gt (Nat.lt_of_lt_of_le lL hge)) (Heap.get?_push_size _ rfl) ⟨c', oc, vs2, t2, rfl, Heap.get?_push_of_some _ goc, hd2, hv2⟩ fun h3 tk3 ns3 k3 => ?_
  ·exact Nat.ne_of_gt (Nat.lt_trans (Nat.lt_of_lt_of_le lL hge) hlt)
  ·refine ⟨_, VN (c := c') (oc := oc) I1 hP hge (Nat.ne_of_gt (Nat.lt_of_lt_of_le lL hge)) hn ns3 (fun b o n1 n2 e => k3 b o n1 (Heap.get?_push_of_some _ (hx b o n2 e))) (k3 _ _ (Ne.symm nLP) (Heap.get?_push_of_some _ htb)) (k3 _ _ (Nat.ne_of_gt (Nat.lt_of_lt_of_le lL hge)) (Heap.get?_push_of_some _ goc)), .inr ⟨c', oc, _, vs2, t2, ?_, AO, hd2, hv2⟩, fun b u n e => ?_⟩
   ·rw [AK (Ne.symm ncP), AO]; rfl
   ·rw [AK (fun z => by rw [z, I1.hok.fresh hge] at e; cases e), AK n]; exact e
 ·-- a later call
  rw [hP] at e1; cases e1
  obtain ⟨g0, _⟩ := I1.hok c0 _ e2
  have n0L : c0 ≠ X.env.locals := fun z => by have := I1.free; rw [← z, e2] at this; cases this
  refine kla_makeFunctionHit (cv := .ref c0) (LO.clos _) I1.ok.glob hG LA.cd hCH gP ?_ ?_ hBA fun ctv h' tk hx hsz => ?_
  ·exact TriplesOk_snoc _ _ _ [] trivial
  ·exact codeAmong_snoc [] trivial rfl
  refine kws_nil ?_
  refine run _ _ _ c0 ctv (fun b o _ e => Heap.get?_push_of_some _ (hx b o e)) (Nat.ne_of_gt (Nat.lt_of_lt_of_le lL hsz)) n0L (Heap.get?_push_size _ rfl) ⟨c0, o0, vs0, t0, rfl, Heap.get?_push_of_some _ (hx _ _ g0), e3, e4⟩ fun h3 tk3 ns3 k3 => ?_
  exact ⟨H1, keptL I1 hn ns3 fun b o n e => k3 b o n (Heap.get?_push_of_some _ (hx b o e)), tb, fun _ _ _ e => e⟩
end
def TY (T : Addr) (H : Hp) : Prop := H T = some (.tbl #[]) ∧ ∀ b, H b = none ∨ (∃ o xs, H b = some (.frz o (.lst xs))) ∨ b = T
theorem Ra {T : Addr} {P : Program} {w : World} {K : PySem.W.Frag} {mg mb : Str → Option Value} {CX : CXT} {k : Nat} {fa a : Addr} {fd : FuncData} {x : Str} {sp : Sp} {s₁ : Shared} {vs : List Value} {ns : List Int}
  (KX : K.In s₁.heap) (hT : s₁.heap.get? T = some (PySem.W.tabObj #[])) (isT : isCodeTable s₁.heap T) (hKT : K.lookup T = none) (hns : s₁.heap.Ns mainGlobals mg) (hb : s₁.heap.Ns builtinsNs mb) (hbb : ∀ x : Str, x ≠ "__name__" → mb x = bootBuiltins x) (hlim : s₁.heap.NoLimit) (hg : s₁.gens = #[])
  (ha : s₁.heap.get? a = some { cls := .type "list", data := .seq vs.toArray }) (hi : IntsAre vs ns) (hl : ns.length ≤ sizeLine) (hr : CT k callerA)
  (F : ∀ base : Heap, K.In base → base.Ns mainGlobals mg → Ay P w K mg base CX k fa fd [x] sp) (hbind : ∀ (s : Shared) (u : Value), BindsTo s fd ⟨[u], []⟩ [(x, u)])
  (hsp : ∀ H : Hp, TY T H → SqL K H a (ns.map V.int) → sp [.ref a] H (fun v _ => v = .bl true) fun _ _ _ => False)
  (hCX : ∀ H e s', CX [] H s₁ (fun _ _ _ => False) e s' → False) :
  codeAny (model P w) callerA (.call (.ref fa) ⟨[.ref a], []⟩) (fun r s' => r = .ok (.ret (.bool true)) ∧ OldK s₁.heap s'.heap ∧ s'.os = s₁.os ∧ AllBare s'.gens) s₁ := by
 have rv := M3 hi
 have lenV := hi.length
 have core : ∀ H : Hp, TY T H → SqL K H a (ns.map V.int) → HOk P w H s₁.heap → (∀ b, H b ≠ none → b = a ∨ b = T) → (H a ≠ none → K.lookup a = none) →
   codeAny (model P w) callerA (.call (.ref fa) ⟨[.ref a], []⟩) (fun r s' => r = .ok (.ret (.bool true)) ∧ OldK s₁.heap s'.heap ∧ s'.os = s₁.os ∧ AllBare s'.gens) s₁ := by
  intro H hO hS hok hA hK
  have base_of : ∀ {b : Addr} {o : Obj}, s₁.heap.get? b = some o → H b = none → (ON s₁.heap H).get? b = some o := fun e n => S3 e n
  have noA : ∀ {b : Addr} {o : Obj} {es : Array DictEntry} {ep : Nat}, s₁.heap.get? b = some o → o.data = .dict es ep → H b = none := fun {b o es ep} e d => by
   cases q : H b with
   | none => rfl
   | some u =>
    rcases hA b (by rw [q]; simp) with e' | e'
    ·subst e'
     rw [ha] at e; cases e
     have d' : Data.seq vs.toArray _ = Data.dict es ep := d
     cases d'
    ·subst e'
     rw [hT] at e; cases e
     have d' : Data.fields _ = Data.dict es ep := d
     cases d'
  have nsK : ∀ {b : Addr} {m : Str → Option Value}, s₁.heap.Ns b m → (ON s₁.heap H).Ns b m := fun {b m} ⟨o, es, ep, e, d, r⟩ => ⟨o, es, ep, base_of e (noA e d), d, r⟩
  have hKb : K.In (ON s₁.heap H) := fun b o e => base_of (KX b o e) (by
   cases q : H b with
   | none => rfl
   | some u =>
    rcases hA b (by rw [q]; simp) with e' | e'
    ·subst e'
     rw [hK (by rw [q]; simp)] at e; cases e
    ·subst e'
     rw [hKT] at e; cases e)
  have hM : Mod K mg (ON s₁.heap H) := ⟨hKb, nsK hns, ⟨mb, nsK hb, hbb⟩, let ⟨mc, h1, h2⟩ := hlim; ⟨mc, nsK h1, h2⟩⟩
  have e0 : QU P w K mg (ON s₁.heap H) callerA [] s₁ H := ⟨rfl, hM, fun b o e => UM e, Nat.le_of_eq (Rf _ _), trivial, fun b hb => absurd (show b ∈ ([] : List Addr) from hb) (by simp), hok, .of_eq hg⟩
  refine codeAny_mono ((F _ hKb (nsK hns)).run callerA [] s₁ H ⟨[.ref a], []⟩ [.ref a] [.ref a] _ _ hr e0 (hbind s₁ (.ref a)) (.cons rfl .nil) (hsp H hO hS)) fun r s' h => ?_
  cases r with
  | error e => exact (hCX H e s' h).elim
  | ok fl =>
   cases fl with
   | next => exact False.elim h
   | brk => exact False.elim h
   | cont => exact False.elim h
   | ret u =>
    obtain ⟨v, H', os, bare, un, hok', r', q⟩ := h
    have q' : v = .bl true := q
    subst q'
    obtain rfl : u = Value.bool true := r'
    refine ⟨rfl, ⟨fun b o e => ?_, fun b o e => un.there b o e (by simp)⟩, os, bare⟩
    cases q : H b with
    | none => exact .inl (un.keep b o e q (by intro z; exact absurd (show b ∈ ([] : List Addr) from z) (by simp)) (by simp))
    | some u =>
     rcases hO.2 b with z | ⟨ob, xs, z⟩ | z
     ·rw [q] at z; cases z
     ·have z2 := un.frzs b ob _ z
      obtain ⟨e1, _⟩ := hok b _ z
      obtain ⟨e2, _⟩ := hok' b _ z2
      rw [e] at e1; cases e1
      exact .inl e2
     ·subst z
      obtain ⟨more, z2⟩ := un.tbls b _ hO.1
      have e2 : s'.heap.get? b = some { cls := .none, data := .fields (#[] ++ more) } := hok' b _ z2
      rw [hT] at e; cases e
      exact .inr (.inl ⟨isT, rfl, #[], more, rfl, e2⟩)
 have naT : a ≠ T := fun z => by rw [z, hT] at ha; cases ha
 cases hk : K.lookup a with
 | some o =>
  have e := KX a o hk
  rw [ha] at e
  cases e
  refine core (fun b => if b = T then some (.tbl #[]) else none) ⟨if_pos rfl, fun b => ?_⟩ (.inr ⟨_, vs.toArray, _, hk, rfl, rfl, rfl, by rw [List.size_toArray, lenV]; exact hl, by simpa using rv⟩) (fun b u z => ?_) (fun b z => ?_) fun z => absurd (if_neg naT) z
  ·by_cases hb : b = T
   ·exact .inr (.inr hb)
   ·exact .inl (if_neg hb)
  ·by_cases hb : b = T
   ·have z' := (if_pos hb).symm.trans z
    cases z'
    subst hb
    exact hT
   ·have z' := (if_neg hb).symm.trans z
    cases z'
  ·by_cases hb : b = T
   ·exact .inr hb
   ·exact absurd (if_neg hb) z
 | none =>
  refine core (fun b => if b = T then some (.tbl #[]) else if b = a then some (.frz { cls := .type "list", data := .seq vs.toArray } (.lst (ns.map V.int))) else none) ⟨if_pos rfl, fun b => ?_⟩ (.inl (.inr ⟨{ cls := .type "list", data := .seq vs.toArray }, (if_neg naT).trans (if_pos rfl)⟩)) (fun b u z => ?_) (fun b z => ?_) fun _ => hk
  ·by_cases hb : b = T
   ·exact .inr (.inr hb)
   ·by_cases hb2 : b = a
    ·exact .inr (.inl ⟨_, _, (if_neg hb).trans (if_pos hb2)⟩)
    ·exact .inl ((if_neg hb).trans (if_neg hb2))
  ·by_cases hb : b = T
   ·have z' := (if_pos hb).symm.trans z
    cases z'
    subst hb
    exact hT
   ·by_cases hb2 : b = a
    ·have z' := ((if_neg hb).trans (if_pos hb2)).symm.trans z
     cases z'
     subst hb2
     exact ⟨ha, by rw [List.length_map]; exact hl, vs, _, rv, ha⟩
    ·have z' := ((if_neg hb).trans (if_neg hb2)).symm.trans z
     cases z'
  ·by_cases hb : b = T
   ·exact .inr hb
   ·by_cases hb2 : b = a
    ·exact .inl hb2
    ·exact absurd ((if_neg hb).trans (if_neg hb2)) z
theorem Fun.okL {P : Program} {w : World} {K : PySem.W.Frag} {mg : Str → Option Value} {base : Heap} {x qual : Str} {st : Stmt} {f c T : Addr} {fd : FuncData} {N ps : List Str} {k : Nat} {sp : Sp} (F : Fun K x qual st f fd) (L : Pl K mg fd.code c T) (S : AY N ps (AH st)) (len : ∀ vs H Q E, sp vs H Q E → vs.length = ps.length)
  (hbody : ∀ (cdv : Value) (A : Around) (outer : List Env) (s : Shared) (H : Hp) (vs : List V) (Q : VK) (E : XK), Pl K mg cdv c T → CT k (A.deeper (envOfC qual (AH st) s.heap.objs.size f cdv)) → sp vs H Q E →
   ∃ t, PSs (FM CX0 P w K mg base N qual (AH st) f cdv A outer s H E).nox (BR st) t ∧ t { nx := fun _ H' => Q .non H', rt := Q } (start N vs) H) : Ay P w K mg base CX0 (k + 1) f fd ps sp := by
 obtain ⟨oc, od, kV, doc, pm, an, cdv, ct, osl, rfl, lk, hcd⟩ := F.ex
 refine Q2 lk hcd S len fun A outer s H vs Q E hr hsp => ?_
 obtain ⟨t, h, q⟩ := hbody cdv A outer s H vs Q E L hr hsp
 exact ⟨t, h.nox, q⟩
def Gs : Option Obj → Bool
 | some ⟨.none, none, .fields vs, sl⟩ => Nat.beq vs.size 0 && Nat.beq sl.size 0
 | _ => false
theorem S5 {o : Option Obj} (h : Gs o = true) : o = some (PySem.W.tabObj #[]) := by
 unfold Gs at h
 split at h
 ·rename_i vs sl
  obtain ⟨h1, h2⟩ := Bool.and_eq_true_iff.mp h
  have e1 : vs = #[] := Array.eq_empty_of_size_eq_zero (Nat.eq_of_beq_eq_true h1)
  have e2 : sl = #[] := Array.eq_empty_of_size_eq_zero (Nat.eq_of_beq_eq_true h2)
  rw [e1, e2]
 ·cases h
def hdOk (vs : Array Value) (T : Addr) : Bool := match (vs[11]? : Option Value), vs.getD 18 .none, vs.getD 7 .none, vs.getD 9 .none, vs.getD 10 .none with
 | some (.ref P), .str _ _, .int _ _, .bool _, .int _ _ => Nat.beq P T
 | _, _, _, _, _ => false
def Tc (K : PySem.W.Frag) (c T : Addr) : Bool := match K.lookup c with
 | some ⟨.type t, _, .fields vs, _⟩ => t == "code" && (hdOk vs T && !(Nat.beq c T))
 | _ => false
theorem Ox {K : PySem.W.Frag} {c T : Addr} (h : Tc K c T = true) (h' : Heap) (X : K.In h') : PySem.W.CodeHd h' c T ∧ isCodeTable h' T := by
 unfold Tc at h
 split at h
 ·rename_i t dd vs sl e
  obtain ⟨h1, h2⟩ := Bool.and_eq_true_iff.mp h
  obtain ⟨h3, h4⟩ := Bool.and_eq_true_iff.mp h2
  obtain rfl : t = "code" := beq_iff_eq.mp h1
  unfold hdOk at h3
  split at h3
  ·rename_i P file tf flags tg inF text tt e11 e18 e7 e9 e10
   obtain rfl : P = T := Nat.eq_of_beq_eq_true h3
   refine ⟨⟨_, vs, file, tf, flags, tg, inF, text, tt, X _ _ e, rfl, rfl, e11, ?_, e18, e7, e9, e10, ?_⟩, ⟨c, _, vs, X _ _ e, rfl, rfl, e11⟩⟩
   ·rw [Array.getD_eq_getD_getElem?, e11]; rfl
   ·intro z
    rw [z, Nat.beq_refl] at h4
    cases h4
  ·cases h3
 ·cases h
def Xh (K : PySem.W.Frag) : Bool := match PySem.W.nsIn K mainGlobals "__builtins__" with
 | some (some (.ref bm)) => !(Nat.beq bm builtinsNs) && (!(Nat.beq bm mainGlobals) && (match K.lookup bm with
  | some ⟨.type t, some d, .plain, _⟩ => t == "module" && Nat.beq d builtinsNs
  | _ => false))
 | _ => false
theorem Tr {K : PySem.W.Frag} {h : Heap} {mg : Str → Option Value} (X : K.In h) (G : h.Ns mainGlobals mg) (e : Xh K = true) (h' : Heap) (X' : K.In h') :
  ∃ bm o, mg "__builtins__" = some (.ref bm) ∧ bm ≠ builtinsNs ∧ bm ≠ mainGlobals ∧ h'.get? bm = some o ∧ o.cls = .type "module" ∧ o.dict = some builtinsNs ∧ o.data = .plain := by
 unfold Xh at e
 split at e
 ·rename_i bm eb
  obtain ⟨h1, h2⟩ := Bool.and_eq_true_iff.mp e
  obtain ⟨h3, h4⟩ := Bool.and_eq_true_iff.mp h2
  split at h4
  ·rename_i t d sl el
   obtain ⟨h5, h6⟩ := Bool.and_eq_true_iff.mp h4
   obtain rfl : t = "module" := beq_iff_eq.mp h5
   obtain rfl : d = builtinsNs := Nat.eq_of_beq_eq_true h6
   refine ⟨bm, _, PySem.W.mg_of X G eb, ?_, ?_, X' _ _ el, rfl, rfl, rfl⟩
   ·intro z; rw [z, Nat.beq_refl] at h1; cases h1
   ·intro z; rw [z, Nat.beq_refl] at h3; cases h3
  ·cases h4
 ·cases e
def Ww (K : PySem.W.Frag) (x : Str) (T : Addr) : Bool := match PySem.W.nsIn K mainGlobals x with
 | some (some (.ref f)) => match K.lookup f with
  | some ⟨_, _, .func fd, _⟩ => match fd.code with
   | .ref c => Tc K c T && Xh K
   | _ => false
  | _ => false
 | _ => false
theorem Tq {K : PySem.W.Frag} {h : Heap} {mg : Str → Option Value} {x : Str} {st : Stmt} {T f : Addr} {fd : FuncData} {ps : List Str} (X : K.In h) (G : h.Ns mainGlobals mg) (D : L2.D K mg x st ps f fd) (e : Ww K x T = true) : ∃ c, Pl K mg fd.code c T ∧ ∀ h', K.In h' → isCodeTable h' T := by
 unfold Ww at e
 split at e
 ·rename_i f' ef
  have e1 := PySem.W.mg_of X G ef
  rw [D.m] at e1; cases e1
  obtain ⟨oc, od, kV, doc, pm, an, cdv, ct, osl, rfl, lk, hcd⟩ := D.F.ex
  rw [lk] at e
  dsimp only at e
  cases cdv with
  | ref c =>
   obtain ⟨h1, h2⟩ := Bool.and_eq_true_iff.mp e
   exact ⟨c, ⟨rfl, fun h' X' => (Ox h1 h' X').1, fun h' X' => Tr X G h2 h' X'⟩, fun h' X' => (Ox h1 h' X').2⟩
  | _ => cases e
 ·cases e
theorem S4 {as : List Addr} {h : Heap} {T : Addr} (n : T ∉ as) : (TG.Kof as h).lookup T = none := by
 induction as with
 | nil => rfl
 | cons b r ih =>
  simp only [TG.Kof, List.filterMap_cons]
  have nb : T ≠ b := fun z => n (by rw [z]; exact List.mem_cons_self)
  cases hb : h.get? b with
  | none => exact ih fun z => n (List.mem_cons_of_mem _ z)
  | some ob =>
   simp only [Option.map_some, List.lookup, beq_eq_false_iff_ne.mpr nb]
   exact ih fun z => n (List.mem_cons_of_mem _ z)
def JF {β : Type} (T : Addr) (as : List Addr) (obs : PySem.W.Frag → β) (v : β) (_ : World) (h : Heap) : Prop := ∃ K : PySem.W.Frag, K.In h ∧ K.lookup T = none ∧ h.get? T = some (PySem.W.tabObj #[]) ∧ obs K = v
theorem JF.of {β : Type} {T : Addr} {as : List Addr} {obs : PySem.W.Frag → β} {v : β} (n : T ∉ as) (w : World) (s : Shared) (e : (Gs (s.heap.get? T), obs (TG.Kof as s.heap)) = (true, v)) : JF T as obs v w s.heap :=
 ⟨_, TG.Wa _ _, S4 n, S5 (Prod.mk.inj e).1, (Prod.mk.inj e).2⟩
theorem JF.keeps {β : Type} {T : Addr} {as : List Addr} {obs : PySem.W.Frag → β} {v : β} (w : World) (h h' : Heap) (x : JF T as obs v w h) (k : ∀ b o, h.get? b = some o → h'.get? b = some o) : JF T as obs v w h' := x.imp fun _ z => ⟨z.1.keeps k, z.2.1, k _ _ z.2.2.1, z.2.2.2⟩
theorem Sj {β : Type} {T : Addr} {as : List Addr} {obs : PySem.W.Frag → β} (s : SharedT) : (Gs (s.abs.heap.get? T), obs (TG.Kof as s.abs.heap)) = (Gs (TG.QX s.tree s.n T), obs (TG.RU as s)) := by
 rw [TG.T8]
 show (Gs ((absHeap s.tree s.n s.life).get? T), _) = _
 rw [TG.Qv]
theorem TK {l : PySem.W.OpenLaw} {n k : Nat} {q : Program} {loose : List Str} {XP : (Str → Option Value) → Heap → Prop} {β : Type} {T : Addr} {as : List Addr} {obs : PySem.W.Frag → β} {v : β} {d : DefRec} {CX : CXT} {sp : PySem.W.Frag → Sp} {x : Str}
  (hn : l.most = some n) (hn2 : n ≤ sizeLine) (hdf : d.params.defaults = []) (hr : CT k callerA)
  (F : ∀ (w : World) (mg : Str → Option Value) (fa : Addr) (h : Heap) (K : PySem.W.Frag), obs K = v → K.In h → h.Ns mainGlobals mg → mg d.name = some (.ref fa) →
   ∃ fd : FuncData, (∀ (s : Shared) (u : Value), BindsTo s fd ⟨[u], []⟩ [(x, u)]) ∧ (∀ h', K.In h' → isCodeTable h' T) ∧
    ∀ base : Heap, K.In base → base.Ns mainGlobals mg → Ay l.prog w K mg base CX k fa fd [x] (sp K))
  (hsp : ∀ (K : PySem.W.Frag) (H : Hp) (a : Addr) (ns : List Int), ns.length ≤ n → TY T H → SqL K H a (ns.map V.int) → sp K [.ref a] H (fun v _ => v = .bl true) fun _ _ _ => False)
  (hCX : ∀ (H : Hp) (s : Shared) (e : Value) (s' : Shared), CX [] H s (fun _ _ _ => False) e s' → False) :
  PySem.W.WalkO q loose XP (JF T as obs v) l.row.toRowW d [] (fun f vs => PySem.call f vs) := by
 refine Att.attach_call hn hdf fun w s₀ s₁ mg mb fa o pm cd doc a vs ns G Y ho hd hcd hmg hobj hints hlen hg => ?_
 obtain ⟨K, KX, KT, hT, KO⟩ := Y
 obtain ⟨fd, hb, isT, hF⟩ := F w mg fa _ K KO KX G.T.g hmg
 exact Ra KX hT (isT _ KX) KT G.T.g G.T.b G.T.builtins G.T.nolimit hg hobj hints (Nat.le_trans hlen hn2) hr hF hb (fun H hO hS => hsp K H a ns hlen hO hS) fun H e s' => hCX H s₁ e s'
end LM
namespace TG
open PySem L2
theorem Paired.at {α β : Type} {F : α → β → Prop} : ∀ {l : List α} {r : List β} {i : Nat} {x : α}, Paired F l r → l[i]? = some x → ∃ y, r[i]? = some y ∧ F x y
 | _, _, i, x, .nil, h => by simp at h
 | _, _, 0, x, .cons h1 _, h => by simp at h; subst h; exact ⟨_, rfl, h1⟩
 | _, _, i + 1, x, .cons _ t, h => by
  obtain ⟨y, h2, h3⟩ := Paired.at (i := i) (x := x) t (by simpa using h)
  exact ⟨y, by simpa using h2, h3⟩
theorem Rr {β : Type} {K : PySem.W.Frag} {a : Addr} {as : List Addr} {bs : List β} {te : TE} {caps : St} {D : Addr} {H1 : Hp} {Q : Hp → Prop} (E : Hp → Addr → β → Prop) (es : ∀ H H' v b, AL H H' → E H v b → E H' v b)
  (F : Hp → V → Addr → β → Prop) (fs : ∀ H H' v q b, AL H H' → F H v q b → F H' v q b) (fd : ∀ H v q b xs ys, H D = some (.lst xs) → H1 D = none → F H v q b → F (L2.upd H D (.lst ys)) v q b)
  (hl : SqL K H1 a (as.map V.ref)) (pr0 : Paired (E H1) as bs) (hD : H1 D = none) (hz : as.length ≤ 1000)
  (he : ∀ q b H (R : VK), b ∈ bs → AL H1 H → (H D ≠ none) → E H q b → (∀ y H', AL H H' → F H' y q b → R y H') → te (some (.ref q) :: caps) H R)
  (hd : ∀ H ys, AL H1 H → H D = some (.lst ys) → ys.length = as.length → (∀ (i : Nat) (y : V), ys[i]? = some y → ∃ q b, as[i]? = some q ∧ bs[i]? = some b ∧ F H y q b) → Q H) : Gd te GZ caps (Itl K a) D H1 Q := by
 refine Rh (xs := as.map V.ref) (fun i ys H => AL H1 H ∧ H D = some (.lst ys) ∧ ∀ (j : Nat) (y : V), ys[j]? = some y → ∃ q b, as[j]? = some q ∧ bs[j]? = some b ∧ F H y q b) ⟨BD hD, AO, fun j y z => by simp at z⟩ (fun _ _ H _ ⟨s1, _⟩ => s1.seq hl) ?_ ?_
 ·rintro i x ys H hx hy ⟨s1, e1, pr⟩
  have hi : i < as.length := by
   have := (List.getElem?_eq_some_iff.mp hx).1
   rwa [List.length_map] at this
  have hq := List.getElem?_eq_getElem hi
  obtain ⟨b, hb, eb⟩ := Paired.at pr0 hq
  have ex : x = V.ref as[i] := by
   rw [List.getElem?_map, hq] at hx
   exact (Option.some.inj hx).symm
  subst ex
  refine he as[i] b H _ (List.mem_of_getElem? hb) s1 (by rw [e1]; simp) (es _ _ _ _ s1 eb) fun y H' s2 fy => ?_
  refine Qt.of (by rw [List.length_map, PySem.sizeLine_eq]; omega) (by rw [List.length_map]; exact hi) hy (s2.get e1) ⟨(s1.trans s2).updFresh hD, AO, fun j z hz' => ?_⟩
  by_cases hj : j < ys.length
  ·rw [List.getElem?_append_left hj] at hz'
   obtain ⟨q, b', h1, h2, h3⟩ := pr j z hz'
   exact ⟨q, b', h1, h2, fd _ _ _ _ _ _ (s2.get e1) hD (fs _ _ _ _ _ s2 h3)⟩
  ·have hj2 : j = ys.length := by
    have := (List.getElem?_eq_some_iff.mp hz').1
    rw [List.length_append] at this
    simp at this
    omega
   subst hj2
   rw [List.getElem?_append_right (Nat.le_refl _), Nat.sub_self] at hz'
   cases hz'
   rw [hy]
   exact ⟨_, b, hq, hb, fd _ _ _ _ _ _ (s2.get e1) hD fy⟩
 ·rintro ys H hy ⟨s1, e1, pr⟩
  exact hd H ys s1 e1 (by rw [hy, List.length_map]) pr
theorem ES {H H' : Hp} {P : Addr} {pos : Pos} {qual : Str} (h : LM.Tbl H P pos qual) (s : AL H H') : LM.Tbl H' P pos qual := by
 rcases h with h | ⟨c, o, u, vs, t, h1, h2, h3⟩
 ·exact .inl (s.get h)
 ·exact .inr ⟨c, o, u, vs, t, s.get h1, s.get h2, h3⟩
def Bw (T : Addr) (H H' : Hp) : Prop := ∀ b u, b ≠ T → H b = some u → H' b = some u
theorem Bw.get {T b : Addr} {H H' : Hp} {u : HO} {pos : Pos} {qual : Str} (s : Bw T H H') (tb : LM.Tbl H T pos qual) (e : H b = some u) (n : ∀ ps, u ≠ .tbl ps) : H' b = some u := s b u (fun z => by
 obtain ⟨ps, h⟩ := tb.tab
 rw [z, h] at e
 exact n ps (Option.some.inj e).symm) e
theorem Bw.gs {T : Addr} {H H' : Hp} {pos : Pos} {qual : Str} {as : List Addr} {gs : List G} (s : Bw T H H') (tb : LM.Tbl H T pos qual) (g : Az H as gs) : Az H' as gs := Paired.mapP g fun _ _ e => s.get tb e fun _ z => by cases z
theorem Bw.of {T : Addr} {H H' : Hp} (s : AL H H') : Bw T H H' := fun _ _ _ e => s.get e
theorem Bw.trans {T : Addr} {H H1 H2 : Hp} (a : Bw T H H1) (b : Bw T H1 H2) : Bw T H H2 := fun c u n e => b c u n (a c u n e)
theorem Bch.sameT {C T : Addr} {H H' : Hp} {b S P : Addr} {ow : List Addr} {gs : List G} {past : List (List G)} {pos : Pos} {qual : Str} (h : Bch C H b S P ow gs past) (s : Bw T H H') (tb : LM.Tbl H T pos qual) : Bch C H' b S P ow gs past :=
 h.keep fun a u ha e => by
  rcases ha with z | z | ⟨xs, z⟩
  ·obtain ⟨dx, eb⟩ := h.at_
   rw [z, eb] at e
   cases e
   rw [z]
   exact s.get tb eb fun _ z => by cases z
  ·obtain ⟨xs, ea⟩ := h.lv a z
   rw [ea] at e
   cases e
   exact s.get tb ea fun _ z => by cases z
  ·rw [z] at e ⊢
   exact s.get tb e fun _ z => by cases z
theorem Pj {ow ow' : List Addr} {H H' : Hp} {P : Addr} {pos : Pos} {qual : Str} (h : LM.Tbl H P pos qual) (k : Kept ow H H' ow') : LM.Tbl H' P pos qual := by
 rcases h with h | ⟨c, o, u, vs, t, h1, h2, h3⟩
 ·exact .inl (k.tbl _ _ h)
 ·exact .inr ⟨c, o, u, vs, t, k.tbl _ _ h1, k.frz _ _ _ h2, h3⟩
structure Eo (ow : List Addr) (H H' : Hp) (ow' : List Addr) : Prop where
 tup : ∀ c xs, H c = some (.tup xs) → H' c = some (.tup xs)
 lst : ∀ c xs, c ∉ ow → H c = some (.lst xs) → H' c = some (.lst xs)
 frz : ∀ c o u, H c = some (.frz o u) → H' c = some (.frz o u)
 off : ∀ c ∈ ow', c ∈ ow ∨ H c = none
 live : ∀ c u, H c = some u → ∃ u', H' c = some u'
theorem Kept.w {ow ow' : List Addr} {H H' : Hp} (k : Kept ow H H' ow') : Eo ow H H' ow' := ⟨k.tup, k.lst, k.frz, k.off, k.live⟩
theorem Eo.trans {ow ow1 ow2 : List Addr} {H H1 H2 : Hp} (a : Eo ow H H1 ow1) (b : Eo ow1 H1 H2 ow2) : Eo ow H H2 ow2 where
 tup := fun c xs e => b.tup c xs (a.tup c xs e)
 lst := fun c xs n e => b.lst c xs (fun z => by
  rcases a.off c z with z | z
  ·exact n z
  ·rw [z] at e; cases e) (a.lst c xs n e)
 frz := fun c o u e => b.frz c o u (a.frz c o u e)
 off := fun c h => by
  rcases b.off c h with z | z
  ·exact a.off c z
  ·refine .inr ?_
   cases q : H c with
   | none => rfl
   | some u => obtain ⟨u', e⟩ := a.live c u q; rw [z] at e; cases e
 live := fun c u e => let ⟨u', e'⟩ := a.live c u e; b.live c u' e'
theorem Eo.same {ow ow1 : List Addr} {H H1 H2 : Hp} (a : Eo ow H H1 ow1) (s : AL H1 H2) : Eo ow H H2 ow1 := a.trans (Kept.of s).w
theorem Eo.ofT {ow : List Addr} {T : Addr} {H H' : Hp} {pos : Pos} {qual : Str} (s : Bw T H H') (tb : LM.Tbl H T pos qual) (tb' : LM.Tbl H' T pos qual) : Eo ow H H' ow where
 tup := fun c xs e => s.get tb e fun _ z => by cases z
 lst := fun c xs _ e => s.get tb e fun _ z => by cases z
 frz := fun c o u e => s.get tb e fun _ z => by cases z
 off := fun _ h => .inl h
 live := fun c u e => by
  by_cases h : c = T
  ·obtain ⟨ps, z⟩ := tb'.tab
   rw [h]; exact ⟨_, z⟩
  ·exact ⟨u, s c u h e⟩
theorem Scr.keptW {K : PySem.W.Frag} {ow ow' : List Addr} {H H' : Hp} {a : Addr} {xs : List V} (h : Scr K ow H a xs) (k : Eo ow H H' ow') : Scr K ow' H' a xs := by
 rcases h with ⟨h, n⟩ | ⟨o, h⟩ | h
 ·exact .inl ⟨k.lst _ _ n h, QF k.off h n⟩
 ·exact .inr (.inl ⟨o, k.frz _ _ _ h⟩)
 ·exact .inr (.inr h)
end TG
set_option Elab.async false
set_option linter.all false
set_option maxRecDepth 100000
set_option maxHeartbeats 4000000
namespace L2
open PySem PySem.Spec PyProof.Rows
section
variable {X : Cx}
end
end L2
namespace TG
open PySem L2
section
variable {T : Addr} {H H' : Hp} {pos : Pos} {qual : Str}
theorem BB.sameT {D : Addr} {gs : List G} (h : BB H D gs) (s : Bw T H H') (tb : LM.Tbl H T pos qual) : BB H' D gs := h.keep (fun _ e => s.get tb e fun _ z => by cases z) fun _ _ e => s.get tb e fun _ z => by cases z
theorem Wd.sameT {C : Addr} {b S P : Addr} {ow : List Addr} {gs : List G} {past : List (List G)} {D L : Addr} (h : Wd C H b S P ow gs past D L) (s : Bw T H H') (tb : LM.Tbl H T pos qual) : Wd C H' b S P ow gs past D L := by
 obtain ⟨ds, e, pr, n⟩ := h.pl
 exact ⟨h.bch.sameT s tb, h.dk.sameT s tb, ⟨ds, (s.get tb e fun _ z => by cases z), Paired.mapP pr fun _ _ q => q.sameT s tb, n⟩, h.po⟩
end
end TG
namespace TG
open PySem L2
end TG
set_option Elab.async false
set_option linter.all false
set_option maxRecDepth 100000
set_option maxHeartbeats 4000000
namespace TG
open PySem L2
abbrev GT : Type := Str → Str → Str → Str → Str → Str → Str → Str → Str → Str → Str → Str → Str → Str → Str → Str → Str → Str → Str → Str → Str → Str → Str → Str → Str → Str → Str → Str → Str → Str → Str → Str → Str → Str → Str → Str → Str → Str → Str → Str → Str → Str → Str → Str → Str → Str → Str → Str → Str → Str → Str → Str → Str → Str → Str → Str → Str → Str → Str → Str → Str → Str → Str → Str → Str → Str → Str → Str → Str → Str → Str → Str → Str → Str → Str → Str → Str → Str → Str → Str → Str → Str → Str → Str → Str → Str → Str → Str → Str → Str → Str → Str → Str → Str → Str → Str → Str → Str → Str → Str → Str → Str → Str → Str → Str → Str → Str → Str → Str → Str → Str → Str → Str → Str → Str → Str → Str → Str → Str → Str → Str → Str → Str → Str → Str → Str → Str → Str → Str → Str → Str → Str → Str → Str → Str → Str → Str → Str → Str → Str → Str → Str → Str → Str → Str → Str → Str → Str → Str → Str → Str → Str → Str → Str → Str → Str → Str → Str → Str → Str → Str → Str → Str → Str → Str → Str → Str → Str → Str → Str → Str → Str → Str → Str → Str → Str → Str → Str → Str → Str → Str → Str → Str → Str → Str → Str → Str → Str → Str → Str → Str → Str → Str → Str → Str → Str → Str → Str → Str → Str → Str → Str → Str → Str → Str → Str → Str → Str → Str → Str → Str → Str → Str → Str → Str → Str → Str → Str → Str → Str → Str → Str → Str → Str → Str → Str → Str → Str → Str → Str → Str → Str → Str → Str → Str → Program
def EqA (p : Program) (G : GT) : Prop := p = G (.ofString "_law_holds_three") (.ofString "_law_threes") (.ofString "_law_chosen") (.ofString "_law_three") (.ofString "_law_larger") (.ofString "_law_row") (.ofString "_law_many") (.ofString "sorted") (.ofString "_law_i") (.ofString "range") (.ofString "len") (.ofString "_law_j") (.ofString "_law_k") (.ofString "_law_bars") (.ofString "append") (.ofString "_law_sets") (.ofString "_law_old") (.ofString ".0") (.ofString "fast") (.ofString "_law_told") (.ofString "_law_beach") (.ofString "_law_refused") (.ofString "most") (.ofString "WrongSize") (.ofString "_law_fits") (.ofString "_law_stands") (.ofString "_law_standing") (.ofString "_law_good") (.ofString "_law_found") (.ofString "_law_most") (.ofString "law") (.ofString "_law_script") (.ofString "Beach") (.ofString "_law_past") (.ofString "_law_laid") (.ofString "_law_step") (.ofString "_law_deed") (.ofString "_law_by") (.ofString "_law_throw_here") (.ofString "_law_gate") (.ofString "_law_gap") (.ofString "_law_list") (.ofString "_law_due") (.ofString "isinstance") (.ofString "list") (.ofString "_law_whole") (.ofString "tuple") (.ofString "_law_throw") (.ofString "_law_one") (.ofString "_law_two") (.ofString "_law_wide") (.ofString "_law_heads") (.ofString "_law_feet") (.ofString "_law_place") (.ofString "_law_gcd") (.ofString "abs") (.ofString "_law_height") (.ofString "_law_line") (.ofString "_law_how") (.ofString "_law_cell") (.ofString "_law_at") (.ofString "_law_spread") (.ofString "_law_most_here") (.ofString "_law_how_here") (.ofString "_law_foot") (.ofString "_law_head") (.ofString "_law_gates") (.ofString "put") (.ofString "_law_count") (.ofString "lift") (.ofString "_law_menu") (.ofString "_law_draw") (.ofString "_law_mixed") (.ofString "int") (.ofString "_law_word") (.ofString "sink") (.ofString "take") (.ofString "back") (.ofString "_law_pool") (.ofString "_law_kind") (.ofString "_law_any_two") (.ofString "_law_would") (.ofString "_law_deed_here") (.ofString "get") (.ofString "_law_refusal") (.ofString "out of bounds") (.ofString "") (.ofString "nothing back") (.ofString "taken") (.ofString "no gate") (.ofString "upside down") (.ofString "max") (.ofString "beach full") (.ofString "deeds full") (.ofString "_law_done") (.ofString "_law_told_here") (.ofString "NoGate") (.ofString "Taken") (.ofString "UpsideDown") (.ofString "OutOfBounds") (.ofString "BeachFull") (.ofString "DeedsFull") (.ofString "NothingBack") (.ofString "_law_kept") (.ofString "_law_kept_here") (.ofString "clear") (.ofString "update") (.ofString "pop") (.ofString "dict") (.ofString "_law_numbers") (.ofString "_law_heights") (.ofString "_law_low") (.ofString "_law_high") (.ofString "_law_under") (.ofString "_law_over") (.ofString "_law_at_here") (.ofString "_law_places") (.ofString "_law_lows") (.ofString "_law_highs") (.ofString "_law_span") (.ofString "_law_near") (.ofString "_law_ends") (.ofString "_law_made") (.ofString "_law_used") (.ofString "_law_step_here") (.ofString "min") (.ofString "bool") (.ofString "__init__") (.ofString "self") (.ofString "standing") (.ofString "past") (.ofString "has_gate") (.ofString "place") (.ofString "gate") (.ofString "gate_at") (.ofString "no gate stands at this place") (.ofString "do_deed") (.ofString "instead") (.ofString "MOST_DEEDS") (.ofString "no more deeds may stand") (.ofString "others") (.ofString "foot") (.ofString "head") (.ofString "a gate stands at this place already") (.ofString "check_gate") (.ofString "MOST_GATES") (.ofString "no more gates may stand") (.ofString "foot_by") (.ofString "head_by") (.ofString "before") (.ofString "many") (.ofString "one deed is the least that is taken back") (.ofString "fewer deeds stand") (.ofString "left") (.ofString "gates") (.ofString "deeds") (.ofString "gates_at") (.ofString "places") (.ofString "_wall") (.ofString "two_gates_at") (.ofString "through") (.ofString "steepest") (.ofString "flattest") (.ofString "runs") (.ofString "SMALL_BEACH") (.ofString "the most are told of a small beach that is not empty") (.ofString "most_gates") (.ofString "passed") (.ofString "throw") (.ofString "__name__") (.ofString "law_throwgate_k41_whole_most") (.ofString "_law_left") (.ofString "_law_once") (.ofString "tried_throws") (.ofString "ordered") (.ofString "throws") (.ofString "common_throw") (.ofString "index") (.ofString "earlier") (.ofString "enumerate") (.ofString "later") (.ofString "line_by") (.ofString "tried") (.ofString "places_passed") (.ofString "key") (.ofString "told") (.ofString "throwgate.beach") (.ofString "the foot would be above the head") (.ofString "number") (.ofString "LEAST") (.ofString "GREATEST") (.ofString "a place, foot or head would be out of bounds") (.ofString "tightest_pair") (.ofString "pair") (.ofString "compare") (.ofString "foot_to_head") (.ofString "steepest_found") (.ofString "foot_place") (.ofString "head_place") (.ofString "passes_all") (.ofString "level_throw") (.ofString "height") (.ofString "found") (.ofString "throwgate.small") (.ofString "throwgate.lists") (.ofString "all") (.ofString "passes") (.ofString "throwgate.lines") (.ofString "height_at") (.ofString "height_top") (.ofString "height_bottom") (.ofString "rise_top") (.ofString "rise_bottom") (.ofString "top") (.ofString "lowest") (.ofString "other") (.ofString "second") (.ofString "steps") (.ofString "gain") (.ofString "start") (.ofString "rise") (.ofString "throwgate.fracs") (.ofString "greatest_divisor") (.ofString "one") (.ofString "two") (.ofString "divisor") (.ofString "rest") (.ofString "next_rest") (.ofString "bottom") (.ofString "right") (.ofString "BeachError") (.ofString "throwgate.errors") (.ofString "ValueError") (.ofString "k") (.ofString "/claim/cut.py")
noncomputable def Gp : GT := by
 refine' (?m : _ → GT) (?h : EqA PySem.Challenge.pw_throwgate_k41_whole_most ?G)
 case h =>
  delta EqA PySem.Challenge.pw_throwgate_k41_whole_most
  iterate 235 (generalize Str.ofString _ = x)
  exact rfl
 case m => exact fun _ => ?G
theorem Gq : EqA PySem.Challenge.pw_throwgate_k41_whole_most Gp := by delta EqA; kernel_rfl
theorem at_0 : Str.ofString "_law_holds_three" = Str.mk (.mk [95, 108, 97, 119, 95, 104, 111, 108, 100, 115, 95, 116, 104, 114, 101, 101]) := by kernel_rfl
theorem at_1 : Str.ofString "_law_threes" = Str.mk (.mk [95, 108, 97, 119, 95, 116, 104, 114, 101, 101, 115]) := by kernel_rfl
theorem at_2 : Str.ofString "_law_chosen" = Str.mk (.mk [95, 108, 97, 119, 95, 99, 104, 111, 115, 101, 110]) := by kernel_rfl
theorem at_3 : Str.ofString "_law_three" = Str.mk (.mk [95, 108, 97, 119, 95, 116, 104, 114, 101, 101]) := by kernel_rfl
theorem at_4 : Str.ofString "_law_larger" = Str.mk (.mk [95, 108, 97, 119, 95, 108, 97, 114, 103, 101, 114]) := by kernel_rfl
theorem at_5 : Str.ofString "_law_row" = Str.mk (.mk [95, 108, 97, 119, 95, 114, 111, 119]) := by kernel_rfl
theorem at_6 : Str.ofString "_law_many" = Str.mk (.mk [95, 108, 97, 119, 95, 109, 97, 110, 121]) := by kernel_rfl
theorem at_7 : Str.ofString "sorted" = Str.mk (.mk [115, 111, 114, 116, 101, 100]) := by kernel_rfl
theorem at_8 : Str.ofString "_law_i" = Str.mk (.mk [95, 108, 97, 119, 95, 105]) := by kernel_rfl
theorem at_9 : Str.ofString "range" = Str.mk (.mk [114, 97, 110, 103, 101]) := by kernel_rfl
theorem at_10 : Str.ofString "len" = Str.mk (.mk [108, 101, 110]) := by kernel_rfl
theorem at_11 : Str.ofString "_law_j" = Str.mk (.mk [95, 108, 97, 119, 95, 106]) := by kernel_rfl
theorem at_12 : Str.ofString "_law_k" = Str.mk (.mk [95, 108, 97, 119, 95, 107]) := by kernel_rfl
theorem at_13 : Str.ofString "_law_bars" = Str.mk (.mk [95, 108, 97, 119, 95, 98, 97, 114, 115]) := by kernel_rfl
theorem at_14 : Str.ofString "append" = Str.mk (.mk [97, 112, 112, 101, 110, 100]) := by kernel_rfl
theorem at_15 : Str.ofString "_law_sets" = Str.mk (.mk [95, 108, 97, 119, 95, 115, 101, 116, 115]) := by kernel_rfl
theorem at_16 : Str.ofString "_law_old" = Str.mk (.mk [95, 108, 97, 119, 95, 111, 108, 100]) := by kernel_rfl
theorem at_17 : Str.ofString ".0" = Str.mk (.mk [46, 48]) := by kernel_rfl
theorem at_18 : Str.ofString "fast" = Str.mk (.mk [102, 97, 115, 116]) := by kernel_rfl
theorem at_19 : Str.ofString "_law_told" = Str.mk (.mk [95, 108, 97, 119, 95, 116, 111, 108, 100]) := by kernel_rfl
theorem at_20 : Str.ofString "_law_beach" = Str.mk (.mk [95, 108, 97, 119, 95, 98, 101, 97, 99, 104]) := by kernel_rfl
theorem at_21 : Str.ofString "_law_refused" = Str.mk (.mk [95, 108, 97, 119, 95, 114, 101, 102, 117, 115, 101, 100]) := by kernel_rfl
theorem at_22 : Str.ofString "most" = Str.mk (.mk [109, 111, 115, 116]) := by kernel_rfl
theorem at_23 : Str.ofString "WrongSize" = Str.mk (.mk [87, 114, 111, 110, 103, 83, 105, 122, 101]) := by kernel_rfl
theorem at_24 : Str.ofString "_law_fits" = Str.mk (.mk [95, 108, 97, 119, 95, 102, 105, 116, 115]) := by kernel_rfl
theorem at_25 : Str.ofString "_law_stands" = Str.mk (.mk [95, 108, 97, 119, 95, 115, 116, 97, 110, 100, 115]) := by kernel_rfl
theorem at_26 : Str.ofString "_law_standing" = Str.mk (.mk [95, 108, 97, 119, 95, 115, 116, 97, 110, 100, 105, 110, 103]) := by kernel_rfl
theorem at_27 : Str.ofString "_law_good" = Str.mk (.mk [95, 108, 97, 119, 95, 103, 111, 111, 100]) := by kernel_rfl
theorem at_28 : Str.ofString "_law_found" = Str.mk (.mk [95, 108, 97, 119, 95, 102, 111, 117, 110, 100]) := by kernel_rfl
theorem at_29 : Str.ofString "_law_most" = Str.mk (.mk [95, 108, 97, 119, 95, 109, 111, 115, 116]) := by kernel_rfl
theorem at_30 : Str.ofString "law" = Str.mk (.mk [108, 97, 119]) := by kernel_rfl
theorem at_31 : Str.ofString "_law_script" = Str.mk (.mk [95, 108, 97, 119, 95, 115, 99, 114, 105, 112, 116]) := by kernel_rfl
theorem at_32 : Str.ofString "Beach" = Str.mk (.mk [66, 101, 97, 99, 104]) := by kernel_rfl
theorem at_33 : Str.ofString "_law_past" = Str.mk (.mk [95, 108, 97, 119, 95, 112, 97, 115, 116]) := by kernel_rfl
theorem at_34 : Str.ofString "_law_laid" = Str.mk (.mk [95, 108, 97, 119, 95, 108, 97, 105, 100]) := by kernel_rfl
theorem at_35 : Str.ofString "_law_step" = Str.mk (.mk [95, 108, 97, 119, 95, 115, 116, 101, 112]) := by kernel_rfl
theorem at_36 : Str.ofString "_law_deed" = Str.mk (.mk [95, 108, 97, 119, 95, 100, 101, 101, 100]) := by kernel_rfl
theorem at_37 : Str.ofString "_law_by" = Str.mk (.mk [95, 108, 97, 119, 95, 98, 121]) := by kernel_rfl
theorem at_38 : Str.ofString "_law_throw_here" = Str.mk (.mk [95, 108, 97, 119, 95, 116, 104, 114, 111, 119, 95, 104, 101, 114, 101]) := by kernel_rfl
theorem at_39 : Str.ofString "_law_gate" = Str.mk (.mk [95, 108, 97, 119, 95, 103, 97, 116, 101]) := by kernel_rfl
theorem at_40 : Str.ofString "_law_gap" = Str.mk (.mk [95, 108, 97, 119, 95, 103, 97, 112]) := by kernel_rfl
theorem at_41 : Str.ofString "_law_list" = Str.mk (.mk [95, 108, 97, 119, 95, 108, 105, 115, 116]) := by kernel_rfl
theorem at_42 : Str.ofString "_law_due" = Str.mk (.mk [95, 108, 97, 119, 95, 100, 117, 101]) := by kernel_rfl
theorem at_43 : Str.ofString "isinstance" = Str.mk (.mk [105, 115, 105, 110, 115, 116, 97, 110, 99, 101]) := by kernel_rfl
theorem at_44 : Str.ofString "list" = Str.mk (.mk [108, 105, 115, 116]) := by kernel_rfl
theorem at_45 : Str.ofString "_law_whole" = Str.mk (.mk [95, 108, 97, 119, 95, 119, 104, 111, 108, 101]) := by kernel_rfl
theorem at_46 : Str.ofString "tuple" = Str.mk (.mk [116, 117, 112, 108, 101]) := by kernel_rfl
theorem at_47 : Str.ofString "_law_throw" = Str.mk (.mk [95, 108, 97, 119, 95, 116, 104, 114, 111, 119]) := by kernel_rfl
theorem at_48 : Str.ofString "_law_one" = Str.mk (.mk [95, 108, 97, 119, 95, 111, 110, 101]) := by kernel_rfl
theorem at_49 : Str.ofString "_law_two" = Str.mk (.mk [95, 108, 97, 119, 95, 116, 119, 111]) := by kernel_rfl
theorem at_50 : Str.ofString "_law_wide" = Str.mk (.mk [95, 108, 97, 119, 95, 119, 105, 100, 101]) := by kernel_rfl
theorem at_51 : Str.ofString "_law_heads" = Str.mk (.mk [95, 108, 97, 119, 95, 104, 101, 97, 100, 115]) := by kernel_rfl
theorem at_52 : Str.ofString "_law_feet" = Str.mk (.mk [95, 108, 97, 119, 95, 102, 101, 101, 116]) := by kernel_rfl
theorem at_53 : Str.ofString "_law_place" = Str.mk (.mk [95, 108, 97, 119, 95, 112, 108, 97, 99, 101]) := by kernel_rfl
theorem at_54 : Str.ofString "_law_gcd" = Str.mk (.mk [95, 108, 97, 119, 95, 103, 99, 100]) := by kernel_rfl
theorem at_55 : Str.ofString "abs" = Str.mk (.mk [97, 98, 115]) := by kernel_rfl
theorem at_56 : Str.ofString "_law_height" = Str.mk (.mk [95, 108, 97, 119, 95, 104, 101, 105, 103, 104, 116]) := by kernel_rfl
theorem at_57 : Str.ofString "_law_line" = Str.mk (.mk [95, 108, 97, 119, 95, 108, 105, 110, 101]) := by kernel_rfl
theorem at_58 : Str.ofString "_law_how" = Str.mk (.mk [95, 108, 97, 119, 95, 104, 111, 119]) := by kernel_rfl
theorem at_59 : Str.ofString "_law_cell" = Str.mk (.mk [95, 108, 97, 119, 95, 99, 101, 108, 108]) := by kernel_rfl
theorem at_60 : Str.ofString "_law_at" = Str.mk (.mk [95, 108, 97, 119, 95, 97, 116]) := by kernel_rfl
theorem at_61 : Str.ofString "_law_spread" = Str.mk (.mk [95, 108, 97, 119, 95, 115, 112, 114, 101, 97, 100]) := by kernel_rfl
theorem at_62 : Str.ofString "_law_most_here" = Str.mk (.mk [95, 108, 97, 119, 95, 109, 111, 115, 116, 95, 104, 101, 114, 101]) := by kernel_rfl
theorem at_63 : Str.ofString "_law_how_here" = Str.mk (.mk [95, 108, 97, 119, 95, 104, 111, 119, 95, 104, 101, 114, 101]) := by kernel_rfl
theorem at_64 : Str.ofString "_law_foot" = Str.mk (.mk [95, 108, 97, 119, 95, 102, 111, 111, 116]) := by kernel_rfl
theorem at_65 : Str.ofString "_law_head" = Str.mk (.mk [95, 108, 97, 119, 95, 104, 101, 97, 100]) := by kernel_rfl
theorem at_66 : Str.ofString "_law_gates" = Str.mk (.mk [95, 108, 97, 119, 95, 103, 97, 116, 101, 115]) := by kernel_rfl
theorem at_67 : Str.ofString "put" = Str.mk (.mk [112, 117, 116]) := by kernel_rfl
theorem at_68 : Str.ofString "_law_count" = Str.mk (.mk [95, 108, 97, 119, 95, 99, 111, 117, 110, 116]) := by kernel_rfl
theorem at_69 : Str.ofString "lift" = Str.mk (.mk [108, 105, 102, 116]) := by kernel_rfl
theorem at_70 : Str.ofString "_law_menu" = Str.mk (.mk [95, 108, 97, 119, 95, 109, 101, 110, 117]) := by kernel_rfl
theorem at_71 : Str.ofString "_law_draw" = Str.mk (.mk [95, 108, 97, 119, 95, 100, 114, 97, 119]) := by kernel_rfl
theorem at_72 : Str.ofString "_law_mixed" = Str.mk (.mk [95, 108, 97, 119, 95, 109, 105, 120, 101, 100]) := by kernel_rfl
theorem at_73 : Str.ofString "int" = Str.mk (.mk [105, 110, 116]) := by kernel_rfl
theorem at_74 : Str.ofString "_law_word" = Str.mk (.mk [95, 108, 97, 119, 95, 119, 111, 114, 100]) := by kernel_rfl
theorem at_75 : Str.ofString "sink" = Str.mk (.mk [115, 105, 110, 107]) := by kernel_rfl
theorem at_76 : Str.ofString "take" = Str.mk (.mk [116, 97, 107, 101]) := by kernel_rfl
theorem at_77 : Str.ofString "back" = Str.mk (.mk [98, 97, 99, 107]) := by kernel_rfl
theorem at_78 : Str.ofString "_law_pool" = Str.mk (.mk [95, 108, 97, 119, 95, 112, 111, 111, 108]) := by kernel_rfl
theorem at_79 : Str.ofString "_law_kind" = Str.mk (.mk [95, 108, 97, 119, 95, 107, 105, 110, 100]) := by kernel_rfl
theorem at_80 : Str.ofString "_law_any_two" = Str.mk (.mk [95, 108, 97, 119, 95, 97, 110, 121, 95, 116, 119, 111]) := by kernel_rfl
theorem at_81 : Str.ofString "_law_would" = Str.mk (.mk [95, 108, 97, 119, 95, 119, 111, 117, 108, 100]) := by kernel_rfl
theorem at_82 : Str.ofString "_law_deed_here" = Str.mk (.mk [95, 108, 97, 119, 95, 100, 101, 101, 100, 95, 104, 101, 114, 101]) := by kernel_rfl
theorem at_83 : Str.ofString "get" = Str.mk (.mk [103, 101, 116]) := by kernel_rfl
theorem at_84 : Str.ofString "_law_refusal" = Str.mk (.mk [95, 108, 97, 119, 95, 114, 101, 102, 117, 115, 97, 108]) := by kernel_rfl
theorem at_85 : Str.ofString "out of bounds" = Str.mk (.mk [111, 117, 116, 32, 111, 102, 32, 98, 111, 117, 110, 100, 115]) := by kernel_rfl
theorem at_86 : Str.ofString "" = Str.mk (.mk []) := by kernel_rfl
theorem at_87 : Str.ofString "nothing back" = Str.mk (.mk [110, 111, 116, 104, 105, 110, 103, 32, 98, 97, 99, 107]) := by kernel_rfl
theorem at_88 : Str.ofString "taken" = Str.mk (.mk [116, 97, 107, 101, 110]) := by kernel_rfl
theorem at_89 : Str.ofString "no gate" = Str.mk (.mk [110, 111, 32, 103, 97, 116, 101]) := by kernel_rfl
theorem at_90 : Str.ofString "upside down" = Str.mk (.mk [117, 112, 115, 105, 100, 101, 32, 100, 111, 119, 110]) := by kernel_rfl
theorem at_91 : Str.ofString "max" = Str.mk (.mk [109, 97, 120]) := by kernel_rfl
theorem at_92 : Str.ofString "beach full" = Str.mk (.mk [98, 101, 97, 99, 104, 32, 102, 117, 108, 108]) := by kernel_rfl
theorem at_93 : Str.ofString "deeds full" = Str.mk (.mk [100, 101, 101, 100, 115, 32, 102, 117, 108, 108]) := by kernel_rfl
theorem at_94 : Str.ofString "_law_done" = Str.mk (.mk [95, 108, 97, 119, 95, 100, 111, 110, 101]) := by kernel_rfl
theorem at_95 : Str.ofString "_law_told_here" = Str.mk (.mk [95, 108, 97, 119, 95, 116, 111, 108, 100, 95, 104, 101, 114, 101]) := by kernel_rfl
theorem at_96 : Str.ofString "NoGate" = Str.mk (.mk [78, 111, 71, 97, 116, 101]) := by kernel_rfl
theorem at_97 : Str.ofString "Taken" = Str.mk (.mk [84, 97, 107, 101, 110]) := by kernel_rfl
theorem at_98 : Str.ofString "UpsideDown" = Str.mk (.mk [85, 112, 115, 105, 100, 101, 68, 111, 119, 110]) := by kernel_rfl
theorem at_99 : Str.ofString "OutOfBounds" = Str.mk (.mk [79, 117, 116, 79, 102, 66, 111, 117, 110, 100, 115]) := by kernel_rfl
theorem Uv : Str.ofString "BeachFull" = Str.mk (.mk [66, 101, 97, 99, 104, 70, 117, 108, 108]) := by kernel_rfl
theorem XG : Str.ofString "DeedsFull" = Str.mk (.mk [68, 101, 101, 100, 115, 70, 117, 108, 108]) := by kernel_rfl
theorem Wf : Str.ofString "NothingBack" = Str.mk (.mk [78, 111, 116, 104, 105, 110, 103, 66, 97, 99, 107]) := by kernel_rfl
theorem Wj : Str.ofString "_law_kept" = Str.mk (.mk [95, 108, 97, 119, 95, 107, 101, 112, 116]) := by kernel_rfl
theorem Wl : Str.ofString "_law_kept_here" = Str.mk (.mk [95, 108, 97, 119, 95, 107, 101, 112, 116, 95, 104, 101, 114, 101]) := by kernel_rfl
theorem U1 : Str.ofString "clear" = Str.mk (.mk [99, 108, 101, 97, 114]) := by kernel_rfl
theorem Vu : Str.ofString "update" = Str.mk (.mk [117, 112, 100, 97, 116, 101]) := by kernel_rfl
theorem WQ : Str.ofString "pop" = Str.mk (.mk [112, 111, 112]) := by kernel_rfl
theorem Xn : Str.ofString "dict" = Str.mk (.mk [100, 105, 99, 116]) := by kernel_rfl
theorem W9 : Str.ofString "_law_numbers" = Str.mk (.mk [95, 108, 97, 119, 95, 110, 117, 109, 98, 101, 114, 115]) := by kernel_rfl
theorem VU : Str.ofString "_law_heights" = Str.mk (.mk [95, 108, 97, 119, 95, 104, 101, 105, 103, 104, 116, 115]) := by kernel_rfl
theorem V4 : Str.ofString "_law_low" = Str.mk (.mk [95, 108, 97, 119, 95, 108, 111, 119]) := by kernel_rfl
theorem U8 : Str.ofString "_law_high" = Str.mk (.mk [95, 108, 97, 119, 95, 104, 105, 103, 104]) := by kernel_rfl
theorem WJ : Str.ofString "_law_under" = Str.mk (.mk [95, 108, 97, 119, 95, 117, 110, 100, 101, 114]) := by kernel_rfl
theorem Wz : Str.ofString "_law_over" = Str.mk (.mk [95, 108, 97, 119, 95, 111, 118, 101, 114]) := by kernel_rfl
theorem Wb : Str.ofString "_law_at_here" = Str.mk (.mk [95, 108, 97, 119, 95, 97, 116, 95, 104, 101, 114, 101]) := by kernel_rfl
theorem XQ : Str.ofString "_law_places" = Str.mk (.mk [95, 108, 97, 119, 95, 112, 108, 97, 99, 101, 115]) := by kernel_rfl
theorem U0 : Str.ofString "_law_lows" = Str.mk (.mk [95, 108, 97, 119, 95, 108, 111, 119, 115]) := by kernel_rfl
theorem Wh : Str.ofString "_law_highs" = Str.mk (.mk [95, 108, 97, 119, 95, 104, 105, 103, 104, 115]) := by kernel_rfl
theorem VT : Str.ofString "_law_span" = Str.mk (.mk [95, 108, 97, 119, 95, 115, 112, 97, 110]) := by kernel_rfl
theorem W2 : Str.ofString "_law_near" = Str.mk (.mk [95, 108, 97, 119, 95, 110, 101, 97, 114]) := by kernel_rfl
theorem VA : Str.ofString "_law_ends" = Str.mk (.mk [95, 108, 97, 119, 95, 101, 110, 100, 115]) := by kernel_rfl
theorem Wq : Str.ofString "_law_made" = Str.mk (.mk [95, 108, 97, 119, 95, 109, 97, 100, 101]) := by kernel_rfl
theorem XA : Str.ofString "_law_used" = Str.mk (.mk [95, 108, 97, 119, 95, 117, 115, 101, 100]) := by kernel_rfl
theorem WS : Str.ofString "_law_step_here" = Str.mk (.mk [95, 108, 97, 119, 95, 115, 116, 101, 112, 95, 104, 101, 114, 101]) := by kernel_rfl
theorem WB : Str.ofString "min" = Str.mk (.mk [109, 105, 110]) := by kernel_rfl
theorem Wk : Str.ofString "bool" = Str.mk (.mk [98, 111, 111, 108]) := by kernel_rfl
theorem VQ : Str.ofString "__init__" = Str.mk (.mk [95, 95, 105, 110, 105, 116, 95, 95]) := by kernel_rfl
theorem XI : Str.ofString "self" = Str.mk (.mk [115, 101, 108, 102]) := by kernel_rfl
theorem Va : Str.ofString "standing" = Str.mk (.mk [115, 116, 97, 110, 100, 105, 110, 103]) := by kernel_rfl
theorem V7 : Str.ofString "past" = Str.mk (.mk [112, 97, 115, 116]) := by kernel_rfl
theorem Wn : Str.ofString "has_gate" = Str.mk (.mk [104, 97, 115, 95, 103, 97, 116, 101]) := by kernel_rfl
theorem WL : Str.ofString "place" = Str.mk (.mk [112, 108, 97, 99, 101]) := by kernel_rfl
theorem Vt : Str.ofString "gate" = Str.mk (.mk [103, 97, 116, 101]) := by kernel_rfl
theorem VZ : Str.ofString "gate_at" = Str.mk (.mk [103, 97, 116, 101, 95, 97, 116]) := by kernel_rfl
theorem WU : Str.ofString "no gate stands at this place" = Str.mk (.mk [110, 111, 32, 103, 97, 116, 101, 32, 115, 116, 97, 110, 100, 115, 32, 97, 116, 32, 116, 104, 105, 115, 32, 112, 108, 97, 99, 101]) := by kernel_rfl
theorem VC : Str.ofString "do_deed" = Str.mk (.mk [100, 111, 95, 100, 101, 101, 100]) := by kernel_rfl
theorem Vn : Str.ofString "instead" = Str.mk (.mk [105, 110, 115, 116, 101, 97, 100]) := by kernel_rfl
theorem Vy : Str.ofString "MOST_DEEDS" = Str.mk (.mk [77, 79, 83, 84, 95, 68, 69, 69, 68, 83]) := by kernel_rfl
theorem Um : Str.ofString "no more deeds may stand" = Str.mk (.mk [110, 111, 32, 109, 111, 114, 101, 32, 100, 101, 101, 100, 115, 32, 109, 97, 121, 32, 115, 116, 97, 110, 100]) := by kernel_rfl
theorem XT : Str.ofString "others" = Str.mk (.mk [111, 116, 104, 101, 114, 115]) := by kernel_rfl
theorem U5 : Str.ofString "foot" = Str.mk (.mk [102, 111, 111, 116]) := by kernel_rfl
theorem VY : Str.ofString "head" = Str.mk (.mk [104, 101, 97, 100]) := by kernel_rfl
theorem WR : Str.ofString "a gate stands at this place already" = Str.mk (.mk [97, 32, 103, 97, 116, 101, 32, 115, 116, 97, 110, 100, 115, 32, 97, 116, 32, 116, 104, 105, 115, 32, 112, 108, 97, 99, 101, 32, 97, 108, 114, 101, 97, 100, 121]) := by kernel_rfl
theorem Us : Str.ofString "check_gate" = Str.mk (.mk [99, 104, 101, 99, 107, 95, 103, 97, 116, 101]) := by kernel_rfl
theorem Xg : Str.ofString "MOST_GATES" = Str.mk (.mk [77, 79, 83, 84, 95, 71, 65, 84, 69, 83]) := by kernel_rfl
theorem VG : Str.ofString "no more gates may stand" = Str.mk (.mk [110, 111, 32, 109, 111, 114, 101, 32, 103, 97, 116, 101, 115, 32, 109, 97, 121, 32, 115, 116, 97, 110, 100]) := by kernel_rfl
theorem U4 : Str.ofString "foot_by" = Str.mk (.mk [102, 111, 111, 116, 95, 98, 121]) := by kernel_rfl
theorem W6 : Str.ofString "head_by" = Str.mk (.mk [104, 101, 97, 100, 95, 98, 121]) := by kernel_rfl
theorem WA : Str.ofString "before" = Str.mk (.mk [98, 101, 102, 111, 114, 101]) := by kernel_rfl
theorem Uo : Str.ofString "many" = Str.mk (.mk [109, 97, 110, 121]) := by kernel_rfl
theorem U3 : Str.ofString "one deed is the least that is taken back" = Str.mk (.mk [111, 110, 101, 32, 100, 101, 101, 100, 32, 105, 115, 32, 116, 104, 101, 32, 108, 101, 97, 115, 116, 32, 116, 104, 97, 116, 32, 105, 115, 32, 116, 97, 107, 101, 110, 32, 98, 97, 99, 107]) := by kernel_rfl
theorem Xa : Str.ofString "fewer deeds stand" = Str.mk (.mk [102, 101, 119, 101, 114, 32, 100, 101, 101, 100, 115, 32, 115, 116, 97, 110, 100]) := by kernel_rfl
theorem Vd : Str.ofString "left" = Str.mk (.mk [108, 101, 102, 116]) := by kernel_rfl
theorem XY : Str.ofString "gates" = Str.mk (.mk [103, 97, 116, 101, 115]) := by kernel_rfl
theorem WV : Str.ofString "deeds" = Str.mk (.mk [100, 101, 101, 100, 115]) := by kernel_rfl
theorem Ut : Str.ofString "gates_at" = Str.mk (.mk [103, 97, 116, 101, 115, 95, 97, 116]) := by kernel_rfl
theorem Wu : Str.ofString "places" = Str.mk (.mk [112, 108, 97, 99, 101, 115]) := by kernel_rfl
theorem Wr : Str.ofString "_wall" = Str.mk (.mk [95, 119, 97, 108, 108]) := by kernel_rfl
theorem V2 : Str.ofString "two_gates_at" = Str.mk (.mk [116, 119, 111, 95, 103, 97, 116, 101, 115, 95, 97, 116]) := by kernel_rfl
theorem Xd : Str.ofString "through" = Str.mk (.mk [116, 104, 114, 111, 117, 103, 104]) := by kernel_rfl
theorem XJ : Str.ofString "steepest" = Str.mk (.mk [115, 116, 101, 101, 112, 101, 115, 116]) := by kernel_rfl
theorem Xb : Str.ofString "flattest" = Str.mk (.mk [102, 108, 97, 116, 116, 101, 115, 116]) := by kernel_rfl
theorem Vf : Str.ofString "runs" = Str.mk (.mk [114, 117, 110, 115]) := by kernel_rfl
theorem VD : Str.ofString "SMALL_BEACH" = Str.mk (.mk [83, 77, 65, 76, 76, 95, 66, 69, 65, 67, 72]) := by kernel_rfl
theorem VI : Str.ofString "the most are told of a small beach that is not empty" = Str.mk (.mk [116, 104, 101, 32, 109, 111, 115, 116, 32, 97, 114, 101, 32, 116, 111, 108, 100, 32, 111, 102, 32, 97, 32, 115, 109, 97, 108, 108, 32, 98, 101, 97, 99, 104, 32, 116, 104, 97, 116, 32, 105, 115, 32, 110, 111, 116, 32, 101, 109, 112, 116, 121]) := by kernel_rfl
theorem XX : Str.ofString "most_gates" = Str.mk (.mk [109, 111, 115, 116, 95, 103, 97, 116, 101, 115]) := by kernel_rfl
theorem Uu : Str.ofString "passed" = Str.mk (.mk [112, 97, 115, 115, 101, 100]) := by kernel_rfl
theorem Xj : Str.ofString "throw" = Str.mk (.mk [116, 104, 114, 111, 119]) := by kernel_rfl
theorem Ux : Str.ofString "__name__" = Str.mk (.mk [95, 95, 110, 97, 109, 101, 95, 95]) := by kernel_rfl
theorem V1 : Str.ofString "law_throwgate_k41_whole_most" = Str.mk (.mk [108, 97, 119, 95, 116, 104, 114, 111, 119, 103, 97, 116, 101, 95, 107, 52, 49, 95, 119, 104, 111, 108, 101, 95, 109, 111, 115, 116]) := by kernel_rfl
theorem Wo : Str.ofString "_law_left" = Str.mk (.mk [95, 108, 97, 119, 95, 108, 101, 102, 116]) := by kernel_rfl
theorem Vq : Str.ofString "_law_once" = Str.mk (.mk [95, 108, 97, 119, 95, 111, 110, 99, 101]) := by kernel_rfl
theorem WT : Str.ofString "tried_throws" = Str.mk (.mk [116, 114, 105, 101, 100, 95, 116, 104, 114, 111, 119, 115]) := by kernel_rfl
theorem V5 : Str.ofString "ordered" = Str.mk (.mk [111, 114, 100, 101, 114, 101, 100]) := by kernel_rfl
theorem V9 : Str.ofString "throws" = Str.mk (.mk [116, 104, 114, 111, 119, 115]) := by kernel_rfl
theorem VP : Str.ofString "common_throw" = Str.mk (.mk [99, 111, 109, 109, 111, 110, 95, 116, 104, 114, 111, 119]) := by kernel_rfl
theorem Vo : Str.ofString "index" = Str.mk (.mk [105, 110, 100, 101, 120]) := by kernel_rfl
theorem Xm : Str.ofString "earlier" = Str.mk (.mk [101, 97, 114, 108, 105, 101, 114]) := by kernel_rfl
theorem VO : Str.ofString "enumerate" = Str.mk (.mk [101, 110, 117, 109, 101, 114, 97, 116, 101]) := by kernel_rfl
theorem W1 : Str.ofString "later" = Str.mk (.mk [108, 97, 116, 101, 114]) := by kernel_rfl
theorem Vg : Str.ofString "line_by" = Str.mk (.mk [108, 105, 110, 101, 95, 98, 121]) := by kernel_rfl
theorem Uy : Str.ofString "tried" = Str.mk (.mk [116, 114, 105, 101, 100]) := by kernel_rfl
theorem Wy : Str.ofString "places_passed" = Str.mk (.mk [112, 108, 97, 99, 101, 115, 95, 112, 97, 115, 115, 101, 100]) := by kernel_rfl
theorem U6 : Str.ofString "key" = Str.mk (.mk [107, 101, 121]) := by kernel_rfl
theorem U7 : Str.ofString "told" = Str.mk (.mk [116, 111, 108, 100]) := by kernel_rfl
theorem VX : Str.ofString "throwgate.beach" = Str.mk (.mk [116, 104, 114, 111, 119, 103, 97, 116, 101, 46, 98, 101, 97, 99, 104]) := by kernel_rfl
theorem Ws : Str.ofString "the foot would be above the head" = Str.mk (.mk [116, 104, 101, 32, 102, 111, 111, 116, 32, 119, 111, 117, 108, 100, 32, 98, 101, 32, 97, 98, 111, 118, 101, 32, 116, 104, 101, 32, 104, 101, 97, 100]) := by kernel_rfl
theorem WD : Str.ofString "number" = Str.mk (.mk [110, 117, 109, 98, 101, 114]) := by kernel_rfl
theorem WF : Str.ofString "LEAST" = Str.mk (.mk [76, 69, 65, 83, 84]) := by kernel_rfl
theorem Wx : Str.ofString "GREATEST" = Str.mk (.mk [71, 82, 69, 65, 84, 69, 83, 84]) := by kernel_rfl
theorem WC : Str.ofString "a place, foot or head would be out of bounds" = Str.mk (.mk [97, 32, 112, 108, 97, 99, 101, 44, 32, 102, 111, 111, 116, 32, 111, 114, 32, 104, 101, 97, 100, 32, 119, 111, 117, 108, 100, 32, 98, 101, 32, 111, 117, 116, 32, 111, 102, 32, 98, 111, 117, 110, 100, 115]) := by kernel_rfl
theorem VR : Str.ofString "tightest_pair" = Str.mk (.mk [116, 105, 103, 104, 116, 101, 115, 116, 95, 112, 97, 105, 114]) := by kernel_rfl
theorem W7 : Str.ofString "pair" = Str.mk (.mk [112, 97, 105, 114]) := by kernel_rfl
theorem Vi : Str.ofString "compare" = Str.mk (.mk [99, 111, 109, 112, 97, 114, 101]) := by kernel_rfl
theorem Up : Str.ofString "foot_to_head" = Str.mk (.mk [102, 111, 111, 116, 95, 116, 111, 95, 104, 101, 97, 100]) := by kernel_rfl
theorem Vk : Str.ofString "steepest_found" = Str.mk (.mk [115, 116, 101, 101, 112, 101, 115, 116, 95, 102, 111, 117, 110, 100]) := by kernel_rfl
theorem Vp : Str.ofString "foot_place" = Str.mk (.mk [102, 111, 111, 116, 95, 112, 108, 97, 99, 101]) := by kernel_rfl
theorem WW : Str.ofString "head_place" = Str.mk (.mk [104, 101, 97, 100, 95, 112, 108, 97, 99, 101]) := by kernel_rfl
theorem XC : Str.ofString "passes_all" = Str.mk (.mk [112, 97, 115, 115, 101, 115, 95, 97, 108, 108]) := by kernel_rfl
theorem V3 : Str.ofString "level_throw" = Str.mk (.mk [108, 101, 118, 101, 108, 95, 116, 104, 114, 111, 119]) := by kernel_rfl
theorem W4 : Str.ofString "height" = Str.mk (.mk [104, 101, 105, 103, 104, 116]) := by kernel_rfl
theorem Xc : Str.ofString "found" = Str.mk (.mk [102, 111, 117, 110, 100]) := by kernel_rfl
theorem Vx : Str.ofString "throwgate.small" = Str.mk (.mk [116, 104, 114, 111, 119, 103, 97, 116, 101, 46, 115, 109, 97, 108, 108]) := by kernel_rfl
theorem XO : Str.ofString "throwgate.lists" = Str.mk (.mk [116, 104, 114, 111, 119, 103, 97, 116, 101, 46, 108, 105, 115, 116, 115]) := by kernel_rfl
theorem Uz : Str.ofString "all" = Str.mk (.mk [97, 108, 108]) := by kernel_rfl
theorem WP : Str.ofString "passes" = Str.mk (.mk [112, 97, 115, 115, 101, 115]) := by kernel_rfl
theorem WO : Str.ofString "throwgate.lines" = Str.mk (.mk [116, 104, 114, 111, 119, 103, 97, 116, 101, 46, 108, 105, 110, 101, 115]) := by kernel_rfl
theorem VS : Str.ofString "height_at" = Str.mk (.mk [104, 101, 105, 103, 104, 116, 95, 97, 116]) := by kernel_rfl
theorem W8 : Str.ofString "height_top" = Str.mk (.mk [104, 101, 105, 103, 104, 116, 95, 116, 111, 112]) := by kernel_rfl
theorem VL : Str.ofString "height_bottom" = Str.mk (.mk [104, 101, 105, 103, 104, 116, 95, 98, 111, 116, 116, 111, 109]) := by kernel_rfl
theorem XS : Str.ofString "rise_top" = Str.mk (.mk [114, 105, 115, 101, 95, 116, 111, 112]) := by kernel_rfl
theorem W3 : Str.ofString "rise_bottom" = Str.mk (.mk [114, 105, 115, 101, 95, 98, 111, 116, 116, 111, 109]) := by kernel_rfl
theorem Vw : Str.ofString "top" = Str.mk (.mk [116, 111, 112]) := by kernel_rfl
theorem Wt : Str.ofString "lowest" = Str.mk (.mk [108, 111, 119, 101, 115, 116]) := by kernel_rfl
theorem XW : Str.ofString "other" = Str.mk (.mk [111, 116, 104, 101, 114]) := by kernel_rfl
theorem V8 : Str.ofString "second" = Str.mk (.mk [115, 101, 99, 111, 110, 100]) := by kernel_rfl
theorem Vc : Str.ofString "steps" = Str.mk (.mk [115, 116, 101, 112, 115]) := by kernel_rfl
theorem Wv : Str.ofString "gain" = Str.mk (.mk [103, 97, 105, 110]) := by kernel_rfl
theorem Ve : Str.ofString "start" = Str.mk (.mk [115, 116, 97, 114, 116]) := by kernel_rfl
theorem XE : Str.ofString "rise" = Str.mk (.mk [114, 105, 115, 101]) := by kernel_rfl
theorem Vj : Str.ofString "throwgate.fracs" = Str.mk (.mk [116, 104, 114, 111, 119, 103, 97, 116, 101, 46, 102, 114, 97, 99, 115]) := by kernel_rfl
theorem W5 : Str.ofString "greatest_divisor" = Str.mk (.mk [103, 114, 101, 97, 116, 101, 115, 116, 95, 100, 105, 118, 105, 115, 111, 114]) := by kernel_rfl
theorem We : Str.ofString "one" = Str.mk (.mk [111, 110, 101]) := by kernel_rfl
theorem Uw : Str.ofString "two" = Str.mk (.mk [116, 119, 111]) := by kernel_rfl
theorem XN : Str.ofString "divisor" = Str.mk (.mk [100, 105, 118, 105, 115, 111, 114]) := by kernel_rfl
theorem Ur : Str.ofString "rest" = Str.mk (.mk [114, 101, 115, 116]) := by kernel_rfl
theorem VM : Str.ofString "next_rest" = Str.mk (.mk [110, 101, 120, 116, 95, 114, 101, 115, 116]) := by kernel_rfl
theorem VJ : Str.ofString "bottom" = Str.mk (.mk [98, 111, 116, 116, 111, 109]) := by kernel_rfl
theorem U2 : Str.ofString "right" = Str.mk (.mk [114, 105, 103, 104, 116]) := by kernel_rfl
theorem Vr : Str.ofString "BeachError" = Str.mk (.mk [66, 101, 97, 99, 104, 69, 114, 114, 111, 114]) := by kernel_rfl
theorem V6 : Str.ofString "throwgate.errors" = Str.mk (.mk [116, 104, 114, 111, 119, 103, 97, 116, 101, 46, 101, 114, 114, 111, 114, 115]) := by kernel_rfl
theorem VW : Str.ofString "ValueError" = Str.mk (.mk [86, 97, 108, 117, 101, 69, 114, 114, 111, 114]) := by kernel_rfl
theorem VB : Str.ofString "k" = Str.mk (.mk [107]) := by kernel_rfl
theorem Xo : Str.ofString "/claim/cut.py" = Str.mk (.mk [47, 99, 108, 97, 105, 109, 47, 99, 117, 116, 46, 112, 121]) := by kernel_rfl
noncomputable def Tw : PSigma fun t : Program => PySem.Challenge.pw_throwgate_k41_whole_most = t := by
 have h := Gq
 simp only [EqA, at_0, at_1, at_2, at_3, at_4, at_5, at_6, at_7, at_8, at_9, at_10, at_11, at_12, at_13, at_14, at_15, at_16, at_17, at_18, at_19, at_20, at_21, at_22, at_23, at_24, at_25, at_26, at_27, at_28, at_29, at_30, at_31, at_32, at_33, at_34, at_35, at_36, at_37, at_38, at_39, at_40, at_41, at_42, at_43, at_44, at_45, at_46, at_47, at_48, at_49, at_50, at_51, at_52, at_53, at_54, at_55, at_56, at_57, at_58, at_59, at_60, at_61, at_62, at_63, at_64, at_65, at_66, at_67, at_68, at_69, at_70, at_71, at_72, at_73, at_74, at_75, at_76, at_77, at_78, at_79, at_80, at_81, at_82, at_83, at_84, at_85, at_86, at_87, at_88, at_89, at_90, at_91, at_92, at_93, at_94, at_95, at_96, at_97, at_98, at_99, Uv, XG, Wf, Wj, Wl, U1, Vu, WQ, Xn, W9, VU, V4, U8, WJ, Wz, Wb, XQ, U0, Wh, VT, W2, VA, Wq, XA, WS, WB, Wk, VQ, XI, Va, V7, Wn, WL, Vt, VZ, WU, VC, Vn, Vy, Um, XT, U5, VY, WR, Us, Xg, VG, U4, W6, WA, Uo, U3, Xa, Vd, XY, WV, Ut, Wu, Wr, V2, Xd, XJ, Xb, Vf, VD, VI, XX, Uu, Xj, Ux, V1, Wo, Vq, WT, V5, V9, VP, Vo, Xm, VO, W1, Vg, Uy, Wy, U6, U7, VX, Ws, WD, WF, Wx, WC, VR, W7, Vi, Up, Vk, Vp, WW, XC, V3, W4, Xc, Vx, XO, Uz, WP, WO, VS, W8, VL, XS, W3, Vw, Wt, XW, V8, Vc, Wv, Ve, XE, Vj, W5, We, Uw, XN, Ur, VM, VJ, U2, Vr, V6, VW, VB, Xo] at h
 exact ⟨_, h⟩
noncomputable def _root_.PySem.W.Fast.tw8361261339424282172 : PySem.Program := TG.Tw.1
theorem _root_.PySem.W.Fast.te8361261339424282172 : PySem.Challenge.pw_throwgate_k41_whole_most = PySem.W.Fast.tw8361261339424282172 := TG.Tw.2
set_option hygiene false
local macro_rules | `(tactic| walk_at "O") => `(tactic| (first | exact Or.inl rfl | exact Or.inr rfl))
local macro_rules | `(tactic| walk_at "NX") => `(tactic| (refine hM _ _ ?_; clear hM; clear M))
local macro_rules | `(tactic| walk_at "Q") => `(tactic| (refine Ir fun M hM => ?_))
local macro_rules | `(tactic| walk_at "SC") => `(tactic| (exact ⟨rfl, rfl, rfl, by decide +kernel, rfl, by decide +kernel, by decide +kernel⟩))
local macro_rules | `(tactic| walk_at "SQT0") => `(tactic| (first | with_reducible assumption | exact SqT.of (by with_reducible assumption)))
local macro_rules | `(tactic| walk_at "SQL0") => `(tactic| (first | with_reducible assumption | exact SqL.of (by with_reducible assumption)))
local macro_rules | `(tactic| walk_at "SAT0") => `(tactic| (with_reducible assumption))
local macro_rules | `(tactic| walk_at "SAME0") => `(tactic| (first | with_reducible assumption | exact AL.refl _))
local macro_rules | `(tactic| walk_at "SQT1") => `(tactic| (first | with_reducible assumption | exact SqT.of (by with_reducible assumption) | exact AL.tup (by with_reducible assumption) (by walk_at "SQT0")))
local macro_rules | `(tactic| walk_at "SQL1") => `(tactic| (first | with_reducible assumption | exact SqL.of (by with_reducible assumption) | exact AL.seq (by with_reducible assumption) (by walk_at "SQL0")))
local macro_rules | `(tactic| walk_at "SAT1") => `(tactic| (first | with_reducible assumption | exact AL.get (by with_reducible assumption) (by walk_at "SAT0")))
local macro_rules | `(tactic| walk_at "SAME1") => `(tactic| (first | with_reducible assumption | exact AL.refl _ | exact AL.trans (by with_reducible assumption) (by walk_at "SAME0")))
local macro_rules | `(tactic| walk_at "SQT2") => `(tactic| (first | with_reducible assumption | exact SqT.of (by with_reducible assumption) | exact AL.tup (by with_reducible assumption) (by walk_at "SQT1")))
local macro_rules | `(tactic| walk_at "SQL2") => `(tactic| (first | with_reducible assumption | exact SqL.of (by with_reducible assumption) | exact AL.seq (by with_reducible assumption) (by walk_at "SQL1")))
local macro_rules | `(tactic| walk_at "SAT2") => `(tactic| (first | with_reducible assumption | exact AL.get (by with_reducible assumption) (by walk_at "SAT1")))
local macro_rules | `(tactic| walk_at "SAME2") => `(tactic| (first | with_reducible assumption | exact AL.refl _ | exact AL.trans (by with_reducible assumption) (by walk_at "SAME1")))
local macro_rules | `(tactic| walk_at "SQT3") => `(tactic| (first | with_reducible assumption | exact SqT.of (by with_reducible assumption) | exact AL.tup (by with_reducible assumption) (by walk_at "SQT2")))
local macro_rules | `(tactic| walk_at "SQL3") => `(tactic| (first | with_reducible assumption | exact SqL.of (by with_reducible assumption) | exact AL.seq (by with_reducible assumption) (by walk_at "SQL2")))
local macro_rules | `(tactic| walk_at "SAT3") => `(tactic| (first | with_reducible assumption | exact AL.get (by with_reducible assumption) (by walk_at "SAT2")))
local macro_rules | `(tactic| walk_at "SAME3") => `(tactic| (first | with_reducible assumption | exact AL.refl _ | exact AL.trans (by with_reducible assumption) (by walk_at "SAME2")))
local macro_rules | `(tactic| walk_at "SQT4") => `(tactic| (first | with_reducible assumption | exact SqT.of (by with_reducible assumption) | exact AL.tup (by with_reducible assumption) (by walk_at "SQT3")))
local macro_rules | `(tactic| walk_at "SQL4") => `(tactic| (first | with_reducible assumption | exact SqL.of (by with_reducible assumption) | exact AL.seq (by with_reducible assumption) (by walk_at "SQL3")))
local macro_rules | `(tactic| walk_at "SAT4") => `(tactic| (first | with_reducible assumption | exact AL.get (by with_reducible assumption) (by walk_at "SAT3")))
local macro_rules | `(tactic| walk_at "SAME4") => `(tactic| (first | with_reducible assumption | exact AL.refl _ | exact AL.trans (by with_reducible assumption) (by walk_at "SAME3")))
local macro_rules | `(tactic| walk_at "SQT5") => `(tactic| (first | with_reducible assumption | exact SqT.of (by with_reducible assumption) | exact AL.tup (by with_reducible assumption) (by walk_at "SQT4")))
local macro_rules | `(tactic| walk_at "SQL5") => `(tactic| (first | with_reducible assumption | exact SqL.of (by with_reducible assumption) | exact AL.seq (by with_reducible assumption) (by walk_at "SQL4")))
local macro_rules | `(tactic| walk_at "SAT5") => `(tactic| (first | with_reducible assumption | exact AL.get (by with_reducible assumption) (by walk_at "SAT4")))
local macro_rules | `(tactic| walk_at "SAME5") => `(tactic| (first | with_reducible assumption | exact AL.refl _ | exact AL.trans (by with_reducible assumption) (by walk_at "SAME4")))
local macro_rules | `(tactic| walk_at "SQT6") => `(tactic| (first | with_reducible assumption | exact SqT.of (by with_reducible assumption) | exact AL.tup (by with_reducible assumption) (by walk_at "SQT5")))
local macro_rules | `(tactic| walk_at "SQL6") => `(tactic| (first | with_reducible assumption | exact SqL.of (by with_reducible assumption) | exact AL.seq (by with_reducible assumption) (by walk_at "SQL5")))
local macro_rules | `(tactic| walk_at "SAT6") => `(tactic| (first | with_reducible assumption | exact AL.get (by with_reducible assumption) (by walk_at "SAT5")))
local macro_rules | `(tactic| walk_at "SAME6") => `(tactic| (first | with_reducible assumption | exact AL.refl _ | exact AL.trans (by with_reducible assumption) (by walk_at "SAME5")))
local macro_rules | `(tactic| walk_at "SQT7") => `(tactic| (first | with_reducible assumption | exact SqT.of (by with_reducible assumption) | exact AL.tup (by with_reducible assumption) (by walk_at "SQT6")))
local macro_rules | `(tactic| walk_at "SQL7") => `(tactic| (first | with_reducible assumption | exact SqL.of (by with_reducible assumption) | exact AL.seq (by with_reducible assumption) (by walk_at "SQL6")))
local macro_rules | `(tactic| walk_at "SAT7") => `(tactic| (first | with_reducible assumption | exact AL.get (by with_reducible assumption) (by walk_at "SAT6")))
local macro_rules | `(tactic| walk_at "SAME7") => `(tactic| (first | with_reducible assumption | exact AL.refl _ | exact AL.trans (by with_reducible assumption) (by walk_at "SAME6")))
local macro_rules | `(tactic| walk_at "SQT8") => `(tactic| (first | with_reducible assumption | exact SqT.of (by with_reducible assumption) | exact AL.tup (by with_reducible assumption) (by walk_at "SQT7")))
local macro_rules | `(tactic| walk_at "SQL8") => `(tactic| (first | with_reducible assumption | exact SqL.of (by with_reducible assumption) | exact AL.seq (by with_reducible assumption) (by walk_at "SQL7")))
local macro_rules | `(tactic| walk_at "SAT8") => `(tactic| (first | with_reducible assumption | exact AL.get (by with_reducible assumption) (by walk_at "SAT7")))
local macro_rules | `(tactic| walk_at "SAME8") => `(tactic| (first | with_reducible assumption | exact AL.refl _ | exact AL.trans (by with_reducible assumption) (by walk_at "SAME7")))
local macro_rules | `(tactic| walk_at "SQT9") => `(tactic| (first | with_reducible assumption | exact SqT.of (by with_reducible assumption) | exact AL.tup (by with_reducible assumption) (by walk_at "SQT8")))
local macro_rules | `(tactic| walk_at "SQL9") => `(tactic| (first | with_reducible assumption | exact SqL.of (by with_reducible assumption) | exact AL.seq (by with_reducible assumption) (by walk_at "SQL8")))
local macro_rules | `(tactic| walk_at "SAT9") => `(tactic| (first | with_reducible assumption | exact AL.get (by with_reducible assumption) (by walk_at "SAT8")))
local macro_rules | `(tactic| walk_at "SAME9") => `(tactic| (first | with_reducible assumption | exact AL.refl _ | exact AL.trans (by with_reducible assumption) (by walk_at "SAME8")))
local macro_rules | `(tactic| walk_at "RD") => `(tactic| (first | (dsimp only [Pk, LD, Po, LU, LN, QV, QZ, Nl, K8, GC, Nk, J1, IF, tOp, tUn, Kw, tC, Hf, Hq, Kq, HY, tCB, IA, HK, rI, rI0, rU, rEq, rNe, Ms, MJ, tOr, ID, MY, Hx, tB, tIf, MV, Lm, Hr, D3, DR, FA, OA, OB, Jo, E6, E4, Me, DS, Hv, Js, FL, Jx, Mt, HN, DQ, Gn, HM, Hm, E8, GZ, tSl, Mb, DT, Ht, Mu, Hg, rIn, MN, Hi, GX, E7, FC, Ml, GR, MH, Et, HX, Jb, JW, Il, L2.start, if_true, if_false, List.map_cons, List.map_nil, List.length_cons, List.length_nil, List.cons_append, List.nil_append, List.replicate, List.set_cons_zero, List.set_cons_succ, List.getElem?_cons_zero, List.getElem?_cons_succ, Nat.reduceAdd, Nat.reduceSub, Int.reduceToNat, Int.reduceNeg, Int.reduceMul, Int.reduceAdd, Int.reduceSub]; (try simp only [Pk, LD, Po, LU, LN, QV, QZ, Nl, K8, GC, Nk, J1, IF, tOp, tUn, Kw, tC, Hf, Hq, Kq, HY, tCB, IA, HK, rI, rI0, rU, rEq, rNe, OZ, Ms, MJ, tOr, ID, MY, Hx, tB, tIf, MV, Lm, Qb, Ps, Np, Hr, D3, DR, FA, OA, OB, Jo, E6, E4, Me, DS, Hv, Js, FL, Jx, Mt, HN, DQ, Gn, HM, Hm, E8, GZ, tSl, Mb, DT, Ht, Mu, Hg, rIn, MN, Hi, GX, E7, FC, Ml, GR, MH, Et, HX, Jb, JW, Il, L2.start, cxK, exists_and_right, and_assoc, Int.reduceLE, Int.reduceLT, Nat.reduceLT, Nat.reducePow, Int.reducePow, J4, NI, false_and, exists_false, and_false, if_true, if_false, decide_true, decide_false, Bool.false_eq_true, Bool.not_true, Bool.not_false, List.map_cons, List.map_nil, List.length_cons, List.length_nil, List.cons_append, List.nil_append, List.append_nil, List.replicate, List.set_cons_zero, List.set_cons_succ, List.getElem?_cons_zero, List.getElem?_cons_succ, Option.some.injEq, V.int.injEq, V.bl.injEq, V.ref.injEq, V.ty.injEq, V.str.injEq, List.cons.injEq, exists_eq_left', exists_and_left, exists_eq_left, true_and, and_true, true_or, or_true, Nat.reduceAdd, Nat.reduceSub, Int.reduceToNat, Int.reduceNeg, Int.reduceMul, Int.reduceAdd, Int.reduceSub, Bool.not_eq_true, Bool.not_not, forall_const])) | simp only [Pk, LD, Po, LU, LN, QV, QZ, Nl, K8, GC, Nk, J1, IF, tOp, tUn, Kw, tC, Hf, Hq, Kq, HY, tCB, IA, HK, rI, rI0, rU, rEq, rNe, OZ, Ms, MJ, tOr, ID, MY, Hx, tB, tIf, MV, Lm, Qb, Ps, Np, Hr, D3, DR, FA, OA, OB, Jo, E6, E4, Me, DS, Hv, Js, FL, Jx, Mt, HN, DQ, Gn, HM, Hm, E8, GZ, tSl, Mb, DT, Ht, Mu, Hg, rIn, MN, Hi, GX, E7, FC, Ml, GR, MH, Et, HX, Jb, JW, Il, L2.start, cxK, exists_and_right, and_assoc, Int.reduceLE, Int.reduceLT, Nat.reduceLT, Nat.reducePow, Int.reducePow, J4, NI, false_and, exists_false, and_false, if_true, if_false, decide_true, decide_false, Bool.false_eq_true, Bool.not_true, Bool.not_false, List.map_cons, List.map_nil, List.length_cons, List.length_nil, List.cons_append, List.nil_append, List.append_nil, List.replicate, List.set_cons_zero, List.set_cons_succ, List.getElem?_cons_zero, List.getElem?_cons_succ, Option.some.injEq, V.int.injEq, V.bl.injEq, V.ref.injEq, V.ty.injEq, V.str.injEq, List.cons.injEq, exists_eq_left', exists_and_left, exists_eq_left, true_and, and_true, true_or, or_true, Nat.reduceAdd, Nat.reduceSub, Int.reduceToNat, Int.reduceNeg, Int.reduceMul, Int.reduceAdd, Int.reduceSub, Bool.not_eq_true, Bool.not_not, forall_const]))
local macro_rules | `(tactic| walk_at "RDE") => `(tactic| (first | (dsimp only [tOp, tUn, Kw, tC, Hf, Hq, Kq, HY, tCB, IA, HK, rI, rI0, rU, rEq, rNe, Ms, MJ, tOr, ID, MY, Hx, tB, tIf, MV, Lm, Hr, D3, DR, FA, OA, OB, Jo, E6, E4, Me, DS, Hv, Js, FL, Jx, Mt, HN, DQ, Gn, HM, Hm, E8, GZ, tSl, Mb, DT, Ht, Mu, Hg, rIn, MN, Hi, GX, E7, FC, Ml, GR, MH, Et, HX, Jb, JW, Il, L2.start, if_true, if_false, List.map_cons, List.map_nil, List.length_cons, List.length_nil, List.cons_append, List.nil_append, List.replicate, List.set_cons_zero, List.set_cons_succ, List.getElem?_cons_zero, List.getElem?_cons_succ, Nat.reduceAdd, Nat.reduceSub, Int.reduceToNat, Int.reduceNeg, Int.reduceMul, Int.reduceAdd, Int.reduceSub]; (try simp only [tOp, tUn, Kw, tC, Hf, Hq, Kq, HY, tCB, IA, HK, rI, rI0, rU, rEq, rNe, OZ, Ms, MJ, tOr, ID, MY, Hx, tB, tIf, MV, Lm, Qb, Ps, Np, Hr, D3, DR, FA, OA, OB, Jo, E6, E4, Me, DS, Hv, Js, FL, Jx, Mt, HN, DQ, Gn, HM, Hm, E8, GZ, tSl, Mb, DT, Ht, Mu, Hg, rIn, MN, Hi, GX, E7, FC, Ml, GR, MH, Et, HX, Jb, JW, Il, L2.start, cxK, exists_and_right, and_assoc, Int.reduceLE, Int.reduceLT, Nat.reduceLT, Nat.reducePow, Int.reducePow, J4, NI, false_and, exists_false, and_false, if_true, if_false, decide_true, decide_false, Bool.false_eq_true, Bool.not_true, Bool.not_false, List.map_cons, List.map_nil, List.length_cons, List.length_nil, List.cons_append, List.nil_append, List.append_nil, List.replicate, List.set_cons_zero, List.set_cons_succ, List.getElem?_cons_zero, List.getElem?_cons_succ, Option.some.injEq, V.int.injEq, V.bl.injEq, V.ref.injEq, V.ty.injEq, V.str.injEq, List.cons.injEq, exists_eq_left', exists_and_left, exists_eq_left, true_and, and_true, true_or, or_true, Nat.reduceAdd, Nat.reduceSub, Int.reduceToNat, Int.reduceNeg, Int.reduceMul, Int.reduceAdd, Int.reduceSub, Bool.not_eq_true, Bool.not_not, forall_const])) | simp only [tOp, tUn, Kw, tC, Hf, Hq, Kq, HY, tCB, IA, HK, rI, rI0, rU, rEq, rNe, OZ, Ms, MJ, tOr, ID, MY, Hx, tB, tIf, MV, Lm, Qb, Ps, Np, Hr, D3, DR, FA, OA, OB, Jo, E6, E4, Me, DS, Hv, Js, FL, Jx, Mt, HN, DQ, Gn, HM, Hm, E8, GZ, tSl, Mb, DT, Ht, Mu, Hg, rIn, MN, Hi, GX, E7, FC, Ml, GR, MH, Et, HX, Jb, JW, Il, L2.start, cxK, exists_and_right, and_assoc, Int.reduceLE, Int.reduceLT, Nat.reduceLT, Nat.reducePow, Int.reducePow, J4, NI, false_and, exists_false, and_false, if_true, if_false, decide_true, decide_false, Bool.false_eq_true, Bool.not_true, Bool.not_false, List.map_cons, List.map_nil, List.length_cons, List.length_nil, List.cons_append, List.nil_append, List.append_nil, List.replicate, List.set_cons_zero, List.set_cons_succ, List.getElem?_cons_zero, List.getElem?_cons_succ, Option.some.injEq, V.int.injEq, V.bl.injEq, V.ref.injEq, V.ty.injEq, V.str.injEq, List.cons.injEq, exists_eq_left', exists_and_left, exists_eq_left, true_and, and_true, true_or, or_true, Nat.reduceAdd, Nat.reduceSub, Int.reduceToNat, Int.reduceNeg, Int.reduceMul, Int.reduceAdd, Int.reduceSub, Bool.not_eq_true, Bool.not_not, forall_const]))
local macro_rules | `(tactic| walk_at "STEP") => `(tactic| ((first | (with_reducible refine ⟨_, rfl, ?_⟩) | (with_reducible apply JS; · exact rfl) | (with_reducible apply JS; · (walk_at "SQT6")) | (with_reducible apply JS; · (walk_at "SQL6")) | (with_reducible apply JS; · (walk_at "SAT6")) | (with_reducible apply JS; · exact BA (by omega) (by omega)) | (with_reducible apply exOrL; · (walk_at "SQL6")) | (with_reducible apply exOrR; · (walk_at "SQT6")) | (with_reducible apply JS; · exact Gg.tup (by walk_at "SAT6")) | (with_reducible apply JS; · exact Gg.lst (by walk_at "SAT6")) | (with_reducible apply JS; · exact Gg.int _) | (with_reducible apply JS; · exact Gg.str _) | (with_reducible apply And.intro; · (first | exact rfl | decide | with_reducible assumption | omega | exact ⟨_, rfl⟩ | exact ⟨_, (by walk_at "SQL6")⟩ | exact ⟨_, (by walk_at "SQT6")⟩ | exact ⟨_, (by walk_at "SAT6")⟩ | (simp only [List.length_map, List.length_append, List.length_cons, List.length_nil, PySem.sizeLine_eq]; omega) | first | with_reducible assumption | exact Sm.of (n := 10 ^ 120) (by omega) (by decide +kernel))) | (with_reducible intro p H' hn hs he; (have ck := Xi hs); clear ck) | (with_reducible apply Qa; · (first | decide | (simp; done) | (simp; omega))) | (with_reducible apply Uq; · (first | decide | (simp; done) | (simp; omega))))))
local macro_rules | `(tactic| walk_at "AUTO") => `(tactic| (repeat walk_at "STEP"))
local macro_rules | `(tactic| delta $ids*) => do
  let ls ← ids.mapM fun i => `(Lean.Parser.Tactic.simpLemma| $i:ident)
  `(tactic| first | (dsimp only [Pk, LD, Po, LU, LN, QV, QZ, Nl, K8, GC, Nk, J1, IF, tOp, tUn, Kw, tC, Hf, Hq, Kq, HY, tCB, IA, HK, rI, rI0, rU, rEq, rNe, Ms, MJ, tOr, ID, MY, Hx, tB, tIf, MV, Lm, Hr, D3, DR, FA, OA, OB, Jo, E6, E4, Me, DS, Hv, Js, FL, Jx, Mt, HN, DQ, Gn, HM, Hm, E8, GZ, tSl, Mb, DT, Ht, Mu, Hg, rIn, MN, Hi, GX, E7, FC, Ml, GR, MH, Et, HX, Jb, JW, Il, L2.start, if_true, if_false, List.map_cons, List.map_nil, List.length_cons, List.length_nil, List.cons_append, List.nil_append, List.replicate, List.set_cons_zero, List.set_cons_succ, List.getElem?_cons_zero, List.getElem?_cons_succ, Nat.reduceAdd, Nat.reduceSub, Int.reduceToNat, Int.reduceNeg, Int.reduceMul, Int.reduceAdd, Int.reduceSub, $ls,*]; (try simp only [Pk, LD, Po, LU, LN, QV, QZ, Nl, K8, GC, Nk, J1, IF, tOp, tUn, Kw, tC, Hf, Hq, Kq, HY, tCB, IA, HK, rI, rI0, rU, rEq, rNe, OZ, Ms, MJ, tOr, ID, MY, Hx, tB, tIf, MV, Lm, Qb, Ps, Np, Hr, D3, DR, FA, OA, OB, Jo, E6, E4, Me, DS, Hv, Js, FL, Jx, Mt, HN, DQ, Gn, HM, Hm, E8, GZ, tSl, Mb, DT, Ht, Mu, Hg, rIn, MN, Hi, GX, E7, FC, Ml, GR, MH, Et, HX, Jb, JW, Il, L2.start, cxK, exists_and_right, and_assoc, Int.reduceLE, Int.reduceLT, Nat.reduceLT, Nat.reducePow, Int.reducePow, J4, NI, false_and, exists_false, and_false, if_true, if_false, decide_true, decide_false, Bool.false_eq_true, Bool.not_true, Bool.not_false, List.map_cons, List.map_nil, List.length_cons, List.length_nil, List.cons_append, List.nil_append, List.append_nil, List.replicate, List.set_cons_zero, List.set_cons_succ, List.getElem?_cons_zero, List.getElem?_cons_succ, Option.some.injEq, V.int.injEq, V.bl.injEq, V.ref.injEq, V.ty.injEq, V.str.injEq, List.cons.injEq, exists_eq_left', exists_and_left, exists_eq_left, true_and, and_true, true_or, or_true, Nat.reduceAdd, Nat.reduceSub, Int.reduceToNat, Int.reduceNeg, Int.reduceMul, Int.reduceAdd, Int.reduceSub, Bool.not_eq_true, Bool.not_not, forall_const, $ls,*])) | simp only [Pk, LD, Po, LU, LN, QV, QZ, Nl, K8, GC, Nk, J1, IF, tOp, tUn, Kw, tC, Hf, Hq, Kq, HY, tCB, IA, HK, rI, rI0, rU, rEq, rNe, OZ, Ms, MJ, tOr, ID, MY, Hx, tB, tIf, MV, Lm, Qb, Ps, Np, Hr, D3, DR, FA, OA, OB, Jo, E6, E4, Me, DS, Hv, Js, FL, Jx, Mt, HN, DQ, Gn, HM, Hm, E8, GZ, tSl, Mb, DT, Ht, Mu, Hg, rIn, MN, Hi, GX, E7, FC, Ml, GR, MH, Et, HX, Jb, JW, Il, L2.start, cxK, exists_and_right, and_assoc, Int.reduceLE, Int.reduceLT, Nat.reduceLT, Nat.reducePow, Int.reducePow, J4, NI, false_and, exists_false, and_false, if_true, if_false, decide_true, decide_false, Bool.false_eq_true, Bool.not_true, Bool.not_false, List.map_cons, List.map_nil, List.length_cons, List.length_nil, List.cons_append, List.nil_append, List.append_nil, List.replicate, List.set_cons_zero, List.set_cons_succ, List.getElem?_cons_zero, List.getElem?_cons_succ, Option.some.injEq, V.int.injEq, V.bl.injEq, V.ref.injEq, V.ty.injEq, V.str.injEq, List.cons.injEq, exists_eq_left', exists_and_left, exists_eq_left, true_and, and_true, true_or, or_true, Nat.reduceAdd, Nat.reduceSub, Int.reduceToNat, Int.reduceNeg, Int.reduceMul, Int.reduceAdd, Int.reduceSub, Bool.not_eq_true, Bool.not_not, forall_const, $ls,*])
def top (i : Nat) : Stmt := PySem.Challenge.pw_throwgate_k41_whole_most.main.body.getD i (.Pass ⟨0, 0, 0, 0⟩)
abbrev CQ : Stmt := top 17
abbrev Lf : Stmt := top 18
abbrev KE : Stmt := top 19
abbrev GV : Stmt := top 21
abbrev J8 : Stmt := top 22
abbrev K3 : Stmt := top 23
abbrev Fd : Stmt := top 25
abbrev Dk : Stmt := top 26
abbrev EL : Stmt := top 27
abbrev Dg : Stmt := top 28
abbrev DO : Stmt := top 29
abbrev Ez : Stmt := top 30
abbrev EI : Stmt := top 31
abbrev EK : Stmt := top 33
abbrev Fq : Stmt := top 34
abbrev Fn : Stmt := top 36
abbrev F1 : Stmt := CK (top 37) 0
abbrev DF : Stmt := CK (top 37) 1
abbrev Dm : Stmt := CK (top 37) 2
abbrev Dj : Stmt := CK (top 37) 3
abbrev Gj : Stmt := CK (top 37) 4
abbrev F2 : Stmt := CK (top 37) 5
abbrev Fv : Stmt := CK (top 37) 6
abbrev Fw : Stmt := CK (top 37) 7
abbrev Fj : Stmt := CK (top 37) 8
abbrev E5 : Stmt := CK (top 37) 9
abbrev Ew : Stmt := CK (top 37) 10
abbrev Ft : Stmt := CK (top 37) 17
abbrev QO : Stmt := top 39
abbrev IW : Stmt := top 40
abbrev Gk : Stmt := top 41
abbrev KD : Stmt := top 42
abbrev J7 : Stmt := top 43
abbrev Gi : Stmt := top 44
abbrev J9 : Stmt := top 45
abbrev GQ : Stmt := top 46
abbrev LQ : Stmt := top 47
abbrev LZ : Stmt := top 48
abbrev Lk : Stmt := top 49
abbrev Nv : Stmt := top 50
abbrev L6 : Stmt := top 51
abbrev LH : Stmt := top 52
abbrev LS : Stmt := top 53
abbrev Fo : Stmt := top 54
abbrev N9 : Stmt := top 55
abbrev KF : Stmt := top 56
abbrev Nq : Stmt := top 57
abbrev QW : Stmt := top 58
abbrev K5 : Stmt := top 59
abbrev LF : Stmt := top 60
abbrev LJ : Stmt := top 61
abbrev Dh : Stmt := top 62
abbrev II : Stmt := top 63
abbrev Lh : Stmt := top 64
abbrev Le : Stmt := top 65
abbrev Q7 : Stmt := top 66
abbrev Dl : Pos := ⟨112, 26, 112, 51⟩
abbrev Kv : Str := (("most_gates" : Str) ++ ".<locals>.") ++ "<lambda>"
abbrev Cr : Addr := 226
abbrev qv : Program := { PySem.Challenge.pw_throwgate_k41_whole_most with main := { PySem.Challenge.pw_throwgate_k41_whole_most.main with body := [Q7] } }
def XV : List Str := [Str.ofString "_wall", Str.ofString "LEAST", Str.ofString "GREATEST", Str.ofString "MOST_GATES", Str.ofString "MOST_DEEDS", Str.ofString "SMALL_BEACH", Str.ofString "BeachError", Str.ofString "NoGate"]
def Vv : List Str := [Str.ofString "Taken", Str.ofString "UpsideDown", Str.ofString "OutOfBounds", Str.ofString "BeachFull", Str.ofString "DeedsFull", Str.ofString "NothingBack", Str.ofString "WrongSize", Str.ofString "greatest_divisor"]
def WN : List Str := [Str.ofString "lowest", Str.ofString "compare", Str.ofString "height_at", Str.ofString "line_by", Str.ofString "passes", Str.ofString "passes_all", Str.ofString "places_passed", Str.ofString "foot_to_head"]
def Vh : List Str := [Str.ofString "tightest_pair", Str.ofString "steepest_found", Str.ofString "level_throw", Str.ofString "common_throw", Str.ofString "tried_throws", Str.ofString "most_gates", Str.ofString "check_gate", Str.ofString "Beach"]
def Vz : List Str := [Str.ofString "_law_at", Str.ofString "_law_spread", Str.ofString "_law_heights", Str.ofString "_law_gates", Str.ofString "_law_whole", Str.ofString "_law_numbers", Str.ofString "_law_would", Str.ofString "_law_refusal"]
def Vm : List Str := [Str.ofString "_law_done", Str.ofString "_law_kept", Str.ofString "_law_step", Str.ofString "_law_how", Str.ofString "_law_laid", Str.ofString "_law_menu", Str.ofString "_law_deed", Str.ofString "_law_standing"]
def VH : List Str := [Str.ofString "_law_gcd", Str.ofString "_law_throw", Str.ofString "_law_gap", Str.ofString "_law_by", Str.ofString "_law_list", Str.ofString "_law_most", Str.ofString "_law_bars", Str.ofString "_law_holds_three"]
def XM : List Str := [Str.ofString "_law_larger", Str.ofString "_law_told", Str.ofString "_law_fits"]
def J6 : List Str := XV ++ Vv ++ WN ++ Vh ++ Vz ++ Vm ++ VH ++ XM
def addrs : List Addr := [4, 2, 3, 15, 17, 18, 20, 21, 22, 29, 30, 31, 32, 35, 42, 43, 44, 47, 54, 55, 56, 59, 66, 67, 68, 71, 78, 79, 80, 83, 90, 91, 92, 95, 102, 103, 104, 107, 114, 115, 116, 119, 126, 127, 128, 131, 133, 134, 136, 137, 138, 140, 141, 143, 144, 145, 147, 148, 150, 151, 152, 154, 155, 157, 158, 159, 161, 162, 164, 165, 166, 168, 169, 171, 172, 173, 176, 177, 178, 181, 182, 183, 185, 186, 188, 189, 190, 192, 193, 195, 196, 197, 199, 200, 202, 203, 204, 206, 207, 209, 210, 211, 213, 214, 216, 217, 218, 220, 221, 223, 224, 225, 228, 229, 230, 232, 233, 235, 236, 244, 246, 247, 249, 250, 251, 254, 255, 256, 258, 259, 261, 262, 263, 266, 267, 268, 270, 271, 273, 274, 275, 277, 278, 280, 281, 282, 284, 285, 287, 288, 289, 291, 292, 294, 295, 296, 297, 299, 300, 302, 303, 304, 306, 307, 309, 310, 311, 313, 314, 316, 317, 318, 320, 321, 323, 324, 325, 327, 328, 330, 331, 332, 334, 335, 337, 338, 339, 341, 342, 344, 345, 346, 348, 349, 351, 352, 353, 355, 356, 358, 359, 360, 362, 363, 365, 366, 367, 369, 370, 372, 373, 374, 375, 376, 377, 378, 381, 383, 384, 386, 387, 388, 390, 391, 393, 394, 395, 397, 398, 400, 401, 402, 404, 405, 407, 408, 409, 411, 412, 414, 415, 416, 418, 419, 421, 422, 423, 425, 426, 428, 429, 430, 432, 433, 435, 436, 437, 439, 440, 442, 443, 444, 446, 447, 449, 450, 451, 453, 454, 456, 457, 458, 460, 461, 463, 464, 465, 467, 468, 470, 471, 472, 474, 475, 477, 478, 479, 481, 482, 484, 485, 486, 489, 490, 491, 493, 494, 496, 497, 498, 500, 501, 503, 504, 505, 507, 508, 510, 511, 512, 514, 515, 517, 518, 519, 521, 522, 524, 525, 526, 529, 530, 531, 533, 534, 536, 537, 538, 540, 541, 543, 544, 545, 548, 549, 550, 552, 553, 555, 556, 557, 559, 560, 562, 563, 564, 566, 567, 569, 570]
def obs0 (K : PySem.W.Frag) : List (Bool) := [WY K "Beach" ["standing", "past"], L4 K "BeachError", L4 K "NoGate", L4 K "Taken", L4 K "UpsideDown", L4 K "OutOfBounds", L4 K "BeachFull", L4 K "DeedsFull"]
def val0 : List (Bool) := [true, true, true, true, true, true, true, true]
def obs1 (K : PySem.W.Frag) : List (Bool) := [L4 K "NothingBack", L4 K "WrongSize", LM.Ww K "most_gates" Cr, HG K "abs", HG K "all", HG K "bool", HG K "dict", HG K "enumerate"]
def val1 : List (Bool) := [true, true, true, true, true, true, true, true]
def obs2 (K : PySem.W.Frag) : List (Bool) := [HG K "int", HG K "isinstance", HG K "len", HG K "list", HG K "max", HG K "min", HG K "range", HG K "sorted"]
def val2 : List (Bool) := [true, true, true, true, true, true, true, true]
def obs3 (K : PySem.W.Frag) : List (Bool) := [HG K "tuple"]
def val3 : List (Bool) := [true]
def obs4 (K : PySem.W.Frag) : List (Option Bool) := [A2 K "NoGate" "NoGate", A2 K "NoGate" "Taken", A2 K "NoGate" "UpsideDown", A2 K "NoGate" "OutOfBounds", A2 K "NoGate" "BeachFull", A2 K "NoGate" "DeedsFull", A2 K "NoGate" "NothingBack", A2 K "NoGate" "WrongSize"]
def val4 : List (Option Bool) := [some true, some false, some false, some false, some false, some false, some false, some false]
def obs5 (K : PySem.W.Frag) : List (Option Bool) := [A2 K "Taken" "NoGate", A2 K "Taken" "Taken", A2 K "Taken" "UpsideDown", A2 K "Taken" "OutOfBounds", A2 K "Taken" "BeachFull", A2 K "Taken" "DeedsFull", A2 K "Taken" "NothingBack", A2 K "Taken" "WrongSize"]
def val5 : List (Option Bool) := [some false, some true, some false, some false, some false, some false, some false, some false]
def obs6 (K : PySem.W.Frag) : List (Option Bool) := [A2 K "UpsideDown" "NoGate", A2 K "UpsideDown" "Taken", A2 K "UpsideDown" "UpsideDown", A2 K "UpsideDown" "OutOfBounds", A2 K "UpsideDown" "BeachFull", A2 K "UpsideDown" "DeedsFull", A2 K "UpsideDown" "NothingBack", A2 K "UpsideDown" "WrongSize"]
def val6 : List (Option Bool) := [some false, some false, some true, some false, some false, some false, some false, some false]
def obs7 (K : PySem.W.Frag) : List (Option Bool) := [A2 K "OutOfBounds" "NoGate", A2 K "OutOfBounds" "Taken", A2 K "OutOfBounds" "UpsideDown", A2 K "OutOfBounds" "OutOfBounds", A2 K "OutOfBounds" "BeachFull", A2 K "OutOfBounds" "DeedsFull", A2 K "OutOfBounds" "NothingBack", A2 K "OutOfBounds" "WrongSize"]
def val7 : List (Option Bool) := [some false, some false, some false, some true, some false, some false, some false, some false]
def obs8 (K : PySem.W.Frag) : List (Option Bool) := [A2 K "BeachFull" "NoGate", A2 K "BeachFull" "Taken", A2 K "BeachFull" "UpsideDown", A2 K "BeachFull" "OutOfBounds", A2 K "BeachFull" "BeachFull", A2 K "BeachFull" "DeedsFull", A2 K "BeachFull" "NothingBack", A2 K "BeachFull" "WrongSize"]
def val8 : List (Option Bool) := [some false, some false, some false, some false, some true, some false, some false, some false]
def obs9 (K : PySem.W.Frag) : List (Option Bool) := [A2 K "DeedsFull" "NoGate", A2 K "DeedsFull" "Taken", A2 K "DeedsFull" "UpsideDown", A2 K "DeedsFull" "OutOfBounds", A2 K "DeedsFull" "BeachFull", A2 K "DeedsFull" "DeedsFull", A2 K "DeedsFull" "NothingBack", A2 K "DeedsFull" "WrongSize"]
def val9 : List (Option Bool) := [some false, some false, some false, some false, some false, some true, some false, some false]
def obs10 (K : PySem.W.Frag) : List (Option Bool) := [A2 K "NothingBack" "NoGate", A2 K "NothingBack" "Taken", A2 K "NothingBack" "UpsideDown", A2 K "NothingBack" "OutOfBounds", A2 K "NothingBack" "BeachFull", A2 K "NothingBack" "DeedsFull", A2 K "NothingBack" "NothingBack", A2 K "NothingBack" "WrongSize"]
def val10 : List (Option Bool) := [some false, some false, some false, some false, some false, some false, some true, some false]
def obs11 (K : PySem.W.Frag) : List (Option Bool) := [A2 K "WrongSize" "NoGate", A2 K "WrongSize" "Taken", A2 K "WrongSize" "UpsideDown", A2 K "WrongSize" "OutOfBounds", A2 K "WrongSize" "BeachFull", A2 K "WrongSize" "DeedsFull", A2 K "WrongSize" "NothingBack", A2 K "WrongSize" "WrongSize"]
def val11 : List (Option Bool) := [some false, some false, some false, some false, some false, some false, some false, some true]
def obs12 (K : PySem.W.Frag) : List (Seen) := [BQ K "greatest_divisor", BQ K "lowest", BQ K "compare", BQ K "height_at", BQ K "line_by", BQ K "passes", BQ K "passes_all", BQ K "places_passed"]
def val12 : List (Seen) := [A1 "greatest_divisor" "greatest_divisor" CQ [], A1 "lowest" "lowest" Lf [], A1 "compare" "compare" KE [], A1 "height_at" "height_at" GV [], A1 "line_by" "line_by" J8 [], A1 "passes" "passes" K3 [], A1 "passes_all" "passes_all" Fd [], A1 "places_passed" "places_passed" Dk []]
def obs13 (K : PySem.W.Frag) : List (Seen) := [BQ K "foot_to_head", BQ K "tightest_pair", BQ K "steepest_found", BQ K "level_throw", BQ K "common_throw", BQ K "tried_throws", BQ K "most_gates", BQ K "check_gate"]
def val13 : List (Seen) := [A1 "foot_to_head" "foot_to_head" EL [], A1 "tightest_pair" "tightest_pair" Dg [], A1 "steepest_found" "steepest_found" DO [], A1 "level_throw" "level_throw" Ez [], A1 "common_throw" "common_throw" EI [], A1 "tried_throws" "tried_throws" EK [], A1 "most_gates" "most_gates" Fq [], A1 "check_gate" "check_gate" Fn []]
def obs14 (K : PySem.W.Frag) : List (Seen) := [GM K "Beach" "__init__" "Beach.__init__", GM K "Beach" "has_gate" "Beach.has_gate", GM K "Beach" "gate_at" "Beach.gate_at", GM K "Beach" "do_deed" "Beach.do_deed", GM K "Beach" "put" "Beach.put", GM K "Beach" "take" "Beach.take", GM K "Beach" "lift" "Beach.lift", GM K "Beach" "sink" "Beach.sink"]
def val14 : List (Seen) := [A1 "__init__" "Beach.__init__" F1 [], A1 "has_gate" "Beach.has_gate" DF [], A1 "gate_at" "Beach.gate_at" Dm [], A1 "do_deed" "Beach.do_deed" Dj [], A1 "put" "Beach.put" Gj [], A1 "take" "Beach.take" F2 [], A1 "lift" "Beach.lift" Fv [], A1 "sink" "Beach.sink" Fw []]
def obs15 (K : PySem.W.Frag) : List (Seen) := [GM K "Beach" "back" "Beach.back", GM K "Beach" "gates" "Beach.gates", GM K "Beach" "deeds" "Beach.deeds", GM K "Beach" "most" "Beach.most", BQ K "_law_at", BQ K "_law_spread", BQ K "_law_heights", BQ K "_law_gates"]
def val15 : List (Seen) := [A1 "back" "Beach.back" Fj [1], A1 "gates" "Beach.gates" E5 [], A1 "deeds" "Beach.deeds" Ew [], A1 "most" "Beach.most" Ft [], A1 "_law_at" "_law_at" QO [], A1 "_law_spread" "_law_spread" IW [], A1 "_law_heights" "_law_heights" Gk [], A1 "_law_gates" "_law_gates" KD []]
def obs16 (K : PySem.W.Frag) : List (Seen) := [BQ K "_law_whole", BQ K "_law_numbers", BQ K "_law_would", BQ K "_law_refusal", BQ K "_law_done", BQ K "_law_kept", BQ K "_law_step", BQ K "_law_how"]
def val16 : List (Seen) := [A1 "_law_whole" "_law_whole" J7 [], A1 "_law_numbers" "_law_numbers" Gi [], A1 "_law_would" "_law_would" J9 [], A1 "_law_refusal" "_law_refusal" GQ [], A1 "_law_done" "_law_done" LQ [], A1 "_law_kept" "_law_kept" LZ [], A1 "_law_step" "_law_step" Lk [], A1 "_law_how" "_law_how" Nv []]
def obs17 (K : PySem.W.Frag) : List (Seen) := [BQ K "_law_laid", BQ K "_law_menu", BQ K "_law_deed", BQ K "_law_standing", BQ K "_law_gcd", BQ K "_law_throw", BQ K "_law_gap", BQ K "_law_by"]
def val17 : List (Seen) := [A1 "_law_laid" "_law_laid" L6 [], A1 "_law_menu" "_law_menu" LH [], A1 "_law_deed" "_law_deed" LS [], A1 "_law_standing" "_law_standing" Fo [], A1 "_law_gcd" "_law_gcd" N9 [], A1 "_law_throw" "_law_throw" KF [], A1 "_law_gap" "_law_gap" Nq [], A1 "_law_by" "_law_by" QW []]
def obs18 (K : PySem.W.Frag) : List (Seen) := [BQ K "_law_list", BQ K "_law_most", BQ K "_law_bars", BQ K "_law_holds_three", BQ K "_law_larger", BQ K "_law_told", BQ K "_law_fits", BQ K "law"]
def val18 : List (Seen) := [A1 "_law_list" "_law_list" K5 [], A1 "_law_most" "_law_most" LF [], A1 "_law_bars" "_law_bars" LJ [], A1 "_law_holds_three" "_law_holds_three" Dh [], A1 "_law_larger" "_law_larger" II [], A1 "_law_told" "_law_told" Lh [], A1 "_law_fits" "_law_fits" Le [], A1 "law" "law" Q7 []]
def obs19 (K : PySem.W.Frag) : List (Option Int) := [QE K "LEAST", QE K "GREATEST", QE K "MOST_GATES", QE K "MOST_DEEDS", QE K "SMALL_BEACH"]
def val19 : List (Option Int) := [some (-1000), some (1000), some (40), some (300), some (12)]
def QY (K : PySem.W.Frag) : List (Bool) × List (Bool) × List (Bool) × List (Bool) × List (Option Bool) × List (Option Bool) × List (Option Bool) × List (Option Bool) × List (Option Bool) × List (Option Bool) × List (Option Bool) × List (Option Bool) × List (Seen) × List (Seen) × List (Seen) × List (Seen) × List (Seen) × List (Seen) × List (Seen) × List (Option Int) := (obs0 K, obs1 K, obs2 K, obs3 K, obs4 K, obs5 K, obs6 K, obs7 K, obs8 K, obs9 K, obs10 K, obs11 K, obs12 K, obs13 K, obs14 K, obs15 K, obs16 K, obs17 K, obs18 K, obs19 K)
def RX : List (Bool) × List (Bool) × List (Bool) × List (Bool) × List (Option Bool) × List (Option Bool) × List (Option Bool) × List (Option Bool) × List (Option Bool) × List (Option Bool) × List (Option Bool) × List (Option Bool) × List (Seen) × List (Seen) × List (Seen) × List (Seen) × List (Seen) × List (Seen) × List (Seen) × List (Option Int) := (val0, val1, val2, val3, val4, val5, val6, val7, val8, val9, val10, val11, val12, val13, val14, val15, val16, val17, val18, val19)
noncomputable def Ti (w : World) (os : PySem.OsState) := KS PySem.Challenge.pw_throwgate_k41_whole_most qv J6 (fun _ => ()) 4285 w os
noncomputable def Qk := some (true, PySem.W.openGood qv J6, ())
noncomputable def Tk (w : World) (os : PySem.OsState) := Sq PySem.Challenge.pw_throwgate_k41_whole_most (fun s => (LM.Gs (QX s.tree s.n Cr), QY (RU addrs s))) 4285 w os
noncomputable def Qi := some (true, RX)
theorem RS : Ti = Ti := rfl
theorem QL : Qk = Qk := rfl
name_quick runAY for TG.Ti by TG.RS
name_quick goodAY for TG.Qk by TG.QL
theorem runA0 (w : World) (os : PySem.OsState) : PySem.W.Fast.runAY w os = PySem.W.Fast.goodAY := by kernel_rfl
theorem runA1 (w : World) (os : PySem.OsState) : Ti w os = Qk := ((congrFun (congrFun PySem.W.Fast.runAY_eq w) os).trans (runA0 w os)).trans PySem.W.Fast.goodAY_eq.symm
theorem Rm : Tk = Tk := rfl
theorem QA : Qi = Qi := rfl
name_quick runBY for TG.Tk by TG.Rm
name_quick goodBY for TG.Qi by TG.QA
theorem runB0 (w : World) (os : PySem.OsState) : PySem.W.Fast.runBY w os = PySem.W.Fast.goodBY := by kernel_rfl
theorem runB1 (w : World) (os : PySem.OsState) : Tk w os = Qi := ((congrFun (congrFun PySem.W.Fast.runBY_eq w) os).trans (runB0 w os)).trans PySem.W.Fast.goodBY_eq.symm
theorem runs (w : World) (os : PySem.OsState) : KS PySem.Challenge.pw_throwgate_k41_whole_most qv J6 (fun s => (LM.Gs (QX s.tree s.n Cr), QY (RU addrs s))) 4285 w os = some (true, PySem.W.openGood qv J6, (true, RX)) := QJ (runA1 w os) (runB1 w os)
theorem left : PySem.W.LeftO PySem.Challenge.pw_throwgate_k41_whole_most qv J6 (fun _ => true) (fun s => (LM.Gs (s.heap.get? Cr), QY (Kof addrs s.heap))) (fun _ => (true, RX)) 8630 :=
 US (M := 4285) (obs := fun s => (LM.Gs (QX s.tree s.n Cr), QY (RU addrs s))) (by kernel_rfl) rfl (fun _ => rfl) rfl (fun s => LM.Sj s) runs
set_option genInjectivity false in
set_option genSizeOfSpec false in
structure Tx (K : PySem.W.Frag) (mg : Str → Option Value) where
 AW : Addr
 UQ : mg "Beach" = some (.ref AW)
 Ag : Cls K AW
 Aq : Ge K AW "standing"
 BH : Ge K AW "past"
 EB : Addr
 Tv : mg "BeachError" = some (.ref EB)
 UK : HD K EB
 A3 : Addr
 PH : mg "NoGate" = some (.ref A3)
 Sv : HD K A3
 BC : Addr
 Qj : mg "Taken" = some (.ref BC)
 UU : HD K BC
 Ae : Addr
 Jl : mg "UpsideDown" = some (.ref Ae)
 OI : HD K Ae
 Ac : Addr
 FB : mg "OutOfBounds" = some (.ref Ac)
 HV : HD K Ac
 Aj : Addr
 Km : mg "BeachFull" = some (.ref Aj)
 PX : HD K Aj
 Ai : Addr
 Kg : mg "DeedsFull" = some (.ref Ai)
 O7 : HD K Ai
 Ab : Addr
 Hn : mg "NothingBack" = some (.ref Ab)
 MX : HD K Ab
 Ak : Addr
 KU : mg "WrongSize" = some (.ref Ak)
 PV : HD K Ak
 GD : PySem.W.exmOne K (.ref A3) (.ref A3) = some true
 GO : PySem.W.exmOne K (.ref A3) (.ref BC) = some false
 Dw : PySem.W.exmOne K (.ref A3) (.ref Ae) = some false
 Dc : PySem.W.exmOne K (.ref A3) (.ref Ac) = some false
 Ea : PySem.W.exmOne K (.ref A3) (.ref Aj) = some false
 EM : PySem.W.exmOne K (.ref A3) (.ref Ai) = some false
 DY : PySem.W.exmOne K (.ref A3) (.ref Ab) = some false
 EO : PySem.W.exmOne K (.ref A3) (.ref Ak) = some false
 Gu : PySem.W.exmOne K (.ref BC) (.ref A3) = some false
 HR : PySem.W.exmOne K (.ref BC) (.ref BC) = some true
 EZ : PySem.W.exmOne K (.ref BC) (.ref Ae) = some false
 Dq : PySem.W.exmOne K (.ref BC) (.ref Ac) = some false
 Es : PySem.W.exmOne K (.ref BC) (.ref Aj) = some false
 Ek : PySem.W.exmOne K (.ref BC) (.ref Ai) = some false
 Dp : PySem.W.exmOne K (.ref BC) (.ref Ab) = some false
 Er : PySem.W.exmOne K (.ref BC) (.ref Ak) = some false
 Dv : PySem.W.exmOne K (.ref Ae) (.ref A3) = some false
 EG : PySem.W.exmOne K (.ref Ae) (.ref BC) = some false
 Cc : PySem.W.exmOne K (.ref Ae) (.ref Ae) = some true
 CG : PySem.W.exmOne K (.ref Ae) (.ref Ac) = some false
 Cv : PySem.W.exmOne K (.ref Ae) (.ref Aj) = some false
 C0 : PySem.W.exmOne K (.ref Ae) (.ref Ai) = some false
 CH : PySem.W.exmOne K (.ref Ae) (.ref Ab) = some false
 C2 : PySem.W.exmOne K (.ref Ae) (.ref Ak) = some false
 Da : PySem.W.exmOne K (.ref Ac) (.ref A3) = some false
 Dy : PySem.W.exmOne K (.ref Ac) (.ref BC) = some false
 CD : PySem.W.exmOne K (.ref Ac) (.ref Ae) = some false
 B9 : PySem.W.exmOne K (.ref Ac) (.ref Ac) = some true
 CW : PySem.W.exmOne K (.ref Ac) (.ref Aj) = some false
 CU : PySem.W.exmOne K (.ref Ac) (.ref Ai) = some false
 B6 : PySem.W.exmOne K (.ref Ac) (.ref Ab) = some false
 Cj : PySem.W.exmOne K (.ref Ac) (.ref Ak) = some false
 EF : PySem.W.exmOne K (.ref Aj) (.ref A3) = some false
 Ed : PySem.W.exmOne K (.ref Aj) (.ref BC) = some false
 Cq : PySem.W.exmOne K (.ref Aj) (.ref Ae) = some false
 Ch : PySem.W.exmOne K (.ref Aj) (.ref Ac) = some false
 DA : PySem.W.exmOne K (.ref Aj) (.ref Aj) = some true
 C8 : PySem.W.exmOne K (.ref Aj) (.ref Ai) = some false
 Cd : PySem.W.exmOne K (.ref Aj) (.ref Ab) = some false
 C4 : PySem.W.exmOne K (.ref Aj) (.ref Ak) = some false
 EN : PySem.W.exmOne K (.ref Ai) (.ref A3) = some false
 En : PySem.W.exmOne K (.ref Ai) (.ref BC) = some false
 Cu : PySem.W.exmOne K (.ref Ai) (.ref Ae) = some false
 Ck : PySem.W.exmOne K (.ref Ai) (.ref Ac) = some false
 C7 : PySem.W.exmOne K (.ref Ai) (.ref Aj) = some false
 DB : PySem.W.exmOne K (.ref Ai) (.ref Ai) = some true
 Co : PySem.W.exmOne K (.ref Ai) (.ref Ab) = some false
 C9 : PySem.W.exmOne K (.ref Ai) (.ref Ak) = some false
 DZ : PySem.W.exmOne K (.ref Ab) (.ref A3) = some false
 Du : PySem.W.exmOne K (.ref Ab) (.ref BC) = some false
 CJ : PySem.W.exmOne K (.ref Ab) (.ref Ae) = some false
 B7 : PySem.W.exmOne K (.ref Ab) (.ref Ac) = some false
 Cm : PySem.W.exmOne K (.ref Ab) (.ref Aj) = some false
 Cb : PySem.W.exmOne K (.ref Ab) (.ref Ai) = some false
 B8 : PySem.W.exmOne K (.ref Ab) (.ref Ab) = some true
 Ca : PySem.W.exmOne K (.ref Ab) (.ref Ak) = some false
 EJ : PySem.W.exmOne K (.ref Ak) (.ref A3) = some false
 Ef : PySem.W.exmOne K (.ref Ak) (.ref BC) = some false
 Cp : PySem.W.exmOne K (.ref Ak) (.ref Ae) = some false
 CY : PySem.W.exmOne K (.ref Ak) (.ref Ac) = some false
 C3 : PySem.W.exmOne K (.ref Ak) (.ref Aj) = some false
 C5 : PySem.W.exmOne K (.ref Ak) (.ref Ai) = some false
 CZ : PySem.W.exmOne K (.ref Ak) (.ref Ab) = some false
 C6 : PySem.W.exmOne K (.ref Ak) (.ref Ak) = some true
 EW : Addr
 Dz : FuncData
 Bg : D K mg "greatest_divisor" CQ ["one", "two"] EW Dz
 OS : Addr
 M8 : FuncData
 CI : D K mg "lowest" Lf ["top", "bottom"] OS M8
 NS : Addr
 LW : FuncData
 Bm : D K mg "compare" KE ["one", "two"] NS LW
 Kl : Addr
 JM : FuncData
 El : D K mg "height_at" GV ["throw", "place"] Kl JM
 No : Addr
 L7 : FuncData
 DG : D K mg "line_by" J8 ["place", "height", "other", "second"] No L7
 Oq : Addr
 Mx : FuncData
 EU : D K mg "passes" K3 ["throw", "gate"] Oq Mx
 JR : Addr
 Hc : FuncData
 D5 : D K mg "passes_all" Fd ["throw", "gates"] JR Hc
 GH : Addr
 FT : FuncData
 CL : D K mg "places_passed" Dk ["throw", "ordered"] GH FT
 Ga : Addr
 F4 : FuncData
 BP : D K mg "foot_to_head" EL ["earlier", "later"] Ga F4
 F9 : Addr
 FQ : FuncData
 CM : D K mg "tightest_pair" Dg ["ordered"] F9 FQ
 FF : Addr
 Ep : FuncData
 B2 : D K mg "steepest_found" DO ["ordered"] FF Ep
 IB : Addr
 GS : FuncData
 Ba : D K mg "level_throw" Ez ["height"] IB GS
 GU : Addr
 GA : FuncData
 Cw : D K mg "common_throw" EI ["ordered"] GU GA
 GW : Addr
 F5 : FuncData
 Cs : D K mg "tried_throws" EK ["ordered"] GW F5
 Im : Addr
 Ex : FuncData
 D7 : D K mg "most_gates" Fq ["gates"] Im Ex
 Nt : Addr
 MZ : LM.Pl K mg Ex.code Nt 226
 JX : Addr
 Hw : FuncData
 Bh : D K mg "check_gate" Fn ["gate"] JX Hw
 Fy : Addr
 HI : FuncData
 JL : DM K AW "__init__" "Beach.__init__" F1 ["self"] Fy HI
 FS : Addr
 Eg : FuncData
 DE : DM K AW "has_gate" "Beach.has_gate" DF ["self", "place"] FS Eg
 GJ : Addr
 FO : FuncData
 Bk : DM K AW "gate_at" "Beach.gate_at" Dm ["self", "place"] GJ FO
 GF : Addr
 FI : FuncData
 BF : DM K AW "do_deed" "Beach.do_deed" Dj ["self", "place", "instead"] GF FI
 Kf : Addr
 Jf : FuncData
 Gc : DM K AW "put" "Beach.put" Gj ["self", "place", "foot", "head"] Kf Jf
 JB : Addr
 HJ : FuncData
 Fs : DM K AW "take" "Beach.take" F2 ["self", "place"] JB HJ
 JZ : Addr
 HL : FuncData
 Ct : DM K AW "lift" "Beach.lift" Fv ["self", "place", "foot_by", "head_by"] JZ HL
 Ji : Addr
 HW : FuncData
 Fg : DM K AW "sink" "Beach.sink" Fw ["self", "place", "foot_by", "head_by"] Ji HW
 Je : Addr
 Hb : FuncData
 B3 : DMD K AW "back" "Beach.back" Fj ["self", "many"] Je Hb [.int 1]
 Hl : Addr
 Gr : FuncData
 MR : DM K AW "gates" "Beach.gates" E5 ["self"] Hl Gr
 HS : Addr
 Gh : FuncData
 Mi : DM K AW "deeds" "Beach.deeds" Ew ["self"] HS Gh
 Jq : Addr
 Ho : FuncData
 Fi : DM K AW "most" "Beach.most" Ft ["self"] Jq Ho
 Sh : Addr
 Q9 : FuncData
 CC : D K mg "_law_at" QO ["_law_script", "_law_k"] Sh Q9
 MF : Addr
 Kk : FuncData
 A0 : D K mg "_law_spread" IW ["_law_cell", "_law_many", "_law_mixed"] MF Kk
 Ke : Addr
 Iz : FuncData
 Ec : D K mg "_law_heights" Gk ["_law_kind", "_law_line", "_law_wide", "_law_low", "_law_high"] Ke Iz
 M6 : Addr
 Lo : FuncData
 G7 : D K mg "_law_gates" KD ["_law_script", "_law_at_here", "_law_many"] M6 Lo
 Nh : Addr
 LR : FuncData
 BK : D K mg "_law_whole" J7 ["_law_found"] Nh LR
 Kd : Addr
 Iq : FuncData
 Em : D K mg "_law_numbers" Gi ["_law_found", "_law_due"] Kd Iq
 NQ : Addr
 MD : FuncData
 Bl : D K mg "_law_would" J9 ["_law_stands", "_law_deed_here"] NQ MD
 Kc : Addr
 JP : FuncData
 Ee : D K mg "_law_refusal" GQ ["_law_stands", "_law_past", "_law_deed_here"] Kc JP
 PK : Addr
 NN : FuncData
 Iv : D K mg "_law_done" LQ ["_law_beach", "_law_deed_here"] PK NN
 PU : Addr
 NA : FuncData
 Ix : D K mg "_law_kept" LZ ["_law_stands", "_law_past", "_law_deed_here"] PU NA
 OU : Addr
 NC : FuncData
 CF : D K mg "_law_step" Lk ["_law_beach", "_law_stands", "_law_past", "_law_deed_here"] OU NC
 RG : Addr
 Oh : FuncData
 Fa : D K mg "_law_how" Nv ["_law_script"] RG Oh
 O9 : Addr
 Nm : FuncData
 Iu : D K mg "_law_laid" L6 ["_law_beach", "_law_stands", "_law_past", "_law_script", "_law_most_here"] O9 Nm
 Ph : Addr
 Nd : FuncData
 Bd : D K mg "_law_menu" LH ["_law_draw"] Ph Nd
 PF : Addr
 NX : FuncData
 JN : D K mg "_law_deed" LS ["_law_script", "_law_k", "_law_stands", "_law_past"] PF NX
 JG : Addr
 Hd : FuncData
 D6 : D K mg "_law_standing" Fo ["_law_stands"] JG Hd
 RD : Addr
 Oc : FuncData
 K2 : D K mg "_law_gcd" N9 ["_law_one", "_law_two"] RD Oc
 Ng : Addr
 Li : FuncData
 G1 : D K mg "_law_throw" KF ["_law_found"] Ng Li
 Qh : Addr
 PL : FuncData
 Fp : D K mg "_law_gap" Nq ["_law_throw_here", "_law_place", "_law_height"] Qh PL
 SV : Addr
 Qg : FuncData
 OQ : D K mg "_law_by" QW ["_law_throw_here", "_law_gate"] SV Qg
 Ol : Addr
 My : FuncData
 Jn : D K mg "_law_list" K5 ["_law_found", "_law_due"] Ol My
 O6 : Addr
 Nf : FuncData
 Jp : D K mg "_law_most" LF ["_law_found", "_law_row"] O6 Nf
 PB : Addr
 NP : FuncData
 JT : D K mg "_law_bars" LJ ["_law_one", "_law_two", "_law_three"] PB NP
 GI : Addr
 FG : FuncData
 CN : D K mg "_law_holds_three" Dh ["_law_threes", "_law_chosen"] GI FG
 MB : Addr
 Kh : FuncData
 Fu : D K mg "_law_larger" II ["_law_row", "_law_many"] MB Kh
 Oo : Addr
 NL : FuncData
 JU : D K mg "_law_told" Lh ["_law_beach"] Oo NL
 Oy : Addr
 ND : FuncData
 ER : D K mg "_law_fits" Le ["_law_beach", "_law_stands"] Oy ND
 Ub : Addr
 Si : FuncData
 d_law : D K mg "law" Q7 ["_law_script"] Ub Si
 La : Mk K AW Fy
 Qm : Value
 T6 : mg "LEAST" = some Qm
 T4 : RelV (.int (-1000)) Qm
 Ll : Value
 QB : mg "GREATEST" = some Ll
 P4 : RelV (.int (1000)) Ll
 Ik : Value
 N6 : mg "MOST_GATES" = some Ik
 OK : RelV (.int (40)) Ik
 JH : Value
 Nx : mg "MOST_DEEDS" = some JH
 N4 : RelV (.int (300)) JH
 Hy : Value
 MK : mg "SMALL_BEACH" = some Hy
 ML : RelV (.int (12)) Hy
 Lz : mg "abs" = none
 z_all : mg "all" = none
 VV : mg "bool" = none
 Wm : mg "dict" = none
 KY : mg "enumerate" = none
 SO : mg "int" = none
 B5 : mg "isinstance" = none
 A8 : mg "len" = none
 Sk : mg "list" = none
 Pa : mg "max" = none
 Ud : mg "min" = none
 Bx : mg "range" = none
 EE : mg "sorted" = none
 N2 : mg "tuple" = none
def Tx.err {K : PySem.W.Frag} {mg : Str → Option Value} (T : Tx K mg) : Err → Value
 | .nogate => .ref T.A3
 | .taken => .ref T.BC
 | .upside => .ref T.Ae
 | .bounds => .ref T.Ac
 | .full => .ref T.Aj
 | .deeds => .ref T.Ai
 | .nothing => .ref T.Ab
 | .size => .ref T.Ak
 | _ => .none
section
variable {P : Program} {w : World} {K : PySem.W.Frag} {mg : Str → Option Value} {base : Heap}
theorem A6 : AY ["one", "two", "divisor", "rest", "next_rest"] ["one", "two"] (AH CQ) := by walk_at "SC"
def Dt : Sp := fun vs H Q _ => ∃ a b : Int, vs = [.int a, .int b] ∧ 0 ≤ a ∧ 0 ≤ b ∧ Q (.int (Int.gcd a b)) H
def W_gd (a b : Int) (H : Hp) : Nat → St → Hp → Prop := fun m σ H' => ∃ (d r : Int) (x : Option V), m = r.toNat ∧ σ = [some (.int a), some (.int b), some (.int d), some (.int r), x] ∧ H' = H ∧ 0 ≤ d ∧ 0 ≤ r ∧ Int.gcd d r = Int.gcd a b
theorem HF (T : Tx K mg) : Ay P w K mg base CX0 1 T.EW T.Dz ["one", "two"] Dt := by
 refine T.Bg.F.ok A6 (fun vs H Q E h => ?_) (fun cdv A outer s H vs Q E hr h => ?_)
 ·obtain ⟨a, b, rfl, ha, hb, k⟩ := h
  rfl
 ·obtain ⟨a, b, rfl, ha, hb, k⟩ := h
  have hu := At hr
  refine ⟨_, (AC (AJ (i := 2) A6.nd rfl (by walk_at "O") (pv 0))
   (AC (AJ (i := 3) A6.nd rfl (by walk_at "O") (pv 1))
   (AC (Ov PassesOwn.never (AQ EY (pv 3) AB (AS _))
    (AC (AJ (i := 4) A6.nd rfl (by walk_at "O") (AF Q0 (pv 2) (pv 3)))
     (AC (AJ (i := 2) A6.nd rfl (by walk_at "O") (pv 3))
     (AE (AJ (i := 3) A6.nd rfl (by walk_at "O") (pv 4))))))
   (AE (AI (pv 2)))))), ?_⟩
  walk_at "RD"
  refine ⟨W_gd a b H, ⟨_, a, b, none, rfl, rfl, rfl, ha, hb, rfl⟩, ?_⟩
  rintro m σ H' ⟨d, r, x, rfl, rfl, rfl, hd, hr', e⟩
  walk_at "RDE"
  by_cases h0 : r = 0
  ·subst h0
   simp only [decide_true, Bool.not_true, Bool.false_eq_true, if_false]
   walk_at "RD"
   rw [← e, Nn hd] at k
   exact k
  ·simp only [h0, decide_false, Bool.not_false, if_true]
   refine ⟨_, fun _ _ h => h, ?_⟩
   walk_at "RD"
   have hp : 0 < r := by omega
   have hf := RH (d := d) hp
   refine ⟨h0, _, ?_, r, d.fmod r, _, rfl, rfl, rfl, hr', hf.1, (OV hd hp).trans e⟩
   omega
theorem KA : AY ["top", "bottom", "divisor"] ["top", "bottom"] (AH Lf) := by walk_at "SC"
def Gw : Sp := fun vs H Q _ => ∃ t b : Int, vs = [.int t, .int b] ∧ b ≠ 0 ∧ Sm b ∧ ∀ p H' x y, AL H H' → H' p = some (.tup [.int x, .int y]) → IU t b x y → Q (.ref p) H'
def C_lo (t b : Int) (H : Hp) : St → Hp → Prop := fun σ H' => ∃ d : Int, σ = [some (.int t), some (.int b), some (.int d)] ∧ H' = H ∧ d = if b < 0 then -((Int.gcd t b : Nat) : Int) else ((Int.gcd t b : Nat) : Int)
theorem KI (T : Tx K mg) : Ay P w K mg base CX0 2 T.OS T.M8 ["top", "bottom"] Gw := by
 refine T.CI.F.ok KA (fun vs H Q E h => ?_) (fun cdv A outer s H vs Q E hr h => ?_)
 ·obtain ⟨t, b, rfl, hb, hs, k⟩ := h
  rfl
 ·obtain ⟨t, b, rfl, hb, hs, k⟩ := h
  have hu := At hr
  refine ⟨_, (AC (AJ (i := 2) KA.nd rfl (by walk_at "O") (AR (HF T) (hr.mono (by decide)) (by rfl) T.Bg.m T.Bg.F.kp T.Bg.b .nil Ad (AA (AM ED (by rfl) T.Lz IG (AA (pv 0) AD)) (AA (AM ED (by rfl) T.Lz IG (AA (pv 1) AD)) AD))))
   (Bt (Ah (AQ Hz (pv 1) AB (AS _)) (AE (AJ (i := 2) KA.nd rfl (by walk_at "O") (F7 Di (pv 2))))
    AV)
   (AE (AI (Av (AA (AF Op (pv 0) (pv 2)) (AA (AF Op (pv 1) (pv 2)) AD))))))), ?_⟩
  delta Dt
  refine ⟨by split <;> omega, by split <;> omega, C_lo t b H, ?_, ?_⟩
  ·rw [UE]
   walk_at "RD"
   by_cases hn : b < 0
   ·rw [if_pos (decide_eq_true hn)]
    exact ⟨_, rfl, rfl, by rw [if_pos hn]⟩
   ·rw [if_neg (by simp [hn])]
    exact ⟨_, rfl, rfl, by rw [if_neg hn]⟩
  ·rintro σ' H' ⟨d, rfl, rfl, hd⟩
   obtain ⟨L, d0⟩ := XU hb hd
   have ds : Sm d := by
    refine Nat.lt_of_le_of_lt ?_ hs
    have h1 : d.natAbs = Int.gcd t b := by rw [hd]; split <;> omega
    rw [h1]
    exact Nat.le_of_dvd (by omega) (Int.gcd_dvd_natAbs_right t b)
   walk_at "RD"
   exact ⟨d0, ds, d0, ds, by decide, fun p H1 hp hs he => k p _ _ _ hs he L⟩
theorem IE : AY ["one", "two", "left", "right"] ["one", "two"] (AH KE) := by walk_at "SC"
def LB (x y : Int) : Int := if x < y then -1 else if y < x then 1 else 0
def Ig (K : PySem.W.Frag) : Sp := fun vs H Q _ => ∃ (p q : Addr) (a b c d : Int), vs = [.ref p, .ref q] ∧ SqT K H p [.int a, .int b] ∧ SqT K H q [.int c, .int d] ∧ Sm a ∧ Sm b ∧ Sm c ∧ Sm d ∧ Q (.int (LB (a * d) (c * b))) H
theorem IK (T : Tx K mg) : Ay P w K mg base CX0 1 T.NS T.LW ["one", "two"] (Ig K) := by
 refine T.Bm.F.ok IE (fun vs H Q E h => ?_) (fun cdv A outer s H vs Q E hr h => ?_)
 ·obtain ⟨p, q, a, b, c, d, rfl, h1, h2, sa, sb, sc, sd, k⟩ := h
  rfl
 ·obtain ⟨p, q, a, b, c, d, rfl, h1, h2, sa, sb, sc, sd, k⟩ := h
  have hu := At hr
  refine ⟨_, (AC (AJ (i := 2) IE.nd rfl (by walk_at "O") (AF B0 (AG AT (pv 0) AB (fun _ _ => rfl)) (AG AT (pv 1) AB (fun _ _ => rfl))))
   (AC (AJ (i := 3) IE.nd rfl (by walk_at "O") (AF B0 (AG AT (pv 1) AB (fun _ _ => rfl)) (AG AT (pv 0) AB (fun _ _ => rfl))))
   (AC (Ah (AQ Hz (pv 2) (pv 3) (AS _)) (AE (AI (F7 Di AB)))
    AV)
   (AC (Ah (AQ GB (pv 2) (pv 3) (AS _)) (AE (AI AB))
    AV)
   (AE (AI AB)))))), ?_⟩
  walk_at "RD"
  walk_at "AUTO"
  unfold LB at k
  by_cases c1 : a * d < c * b
  ·simp only [c1, decide_true, if_true] at k ⊢
   exact k
  ·by_cases c2 : c * b < a * d
   ·simp only [c1, c2, decide_true, decide_false, Bool.false_eq_true, if_true, if_false] at k ⊢
    exact k
   ·simp only [c1, c2, decide_true, decide_false, Bool.false_eq_true, if_true, if_false] at k ⊢
    exact k
theorem B4 : AY ["throw", "place", "height_top", "height_bottom", "rise_top", "rise_bottom", "top"] ["throw", "place"] (AH GV) := by walk_at "SC"
def JI (K : PySem.W.Frag) : Sp := fun vs H Q _ => ∃ (p : Addr) (pl a b c d : Int), vs = [.ref p, .int pl] ∧ SqT K H p [.int a, .int b, .int c, .int d] ∧ 0 < b ∧ 0 < d ∧ Md a ∧ Md b ∧ Md c ∧ Md d ∧ Md pl ∧ ∀ q H' x y, AL H H' → H' q = some (.tup [.int x, .int y]) → IU (a * d + pl * c * b) (b * d) x y → Q (.ref q) H'
theorem Nw (T : Tx K mg) : Ay P w K mg base CX0 3 T.Kl T.JM ["throw", "place"] (JI K) := by
 refine T.El.F.ok B4 (fun vs H Q E h => ?_) (fun cdv A outer s H vs Q E hr h => ?_)
 ·obtain ⟨p, pl, a, b, c, d, rfl, h1, hb, hd, ma, mb, mc, md, mp, k⟩ := h
  rfl
 ·obtain ⟨p, pl, a, b, c, d, rfl, h1, hb, hd, ma, mb, mc, md, mp, k⟩ := h
  have hu := At hr
  refine ⟨_, (AC (AJ (i := 2) B4.nd rfl (by walk_at "O") (AG AT (pv 0) AB (fun _ _ => rfl)))
   (AC (AJ (i := 3) B4.nd rfl (by walk_at "O") (AG AT (pv 0) AB (fun _ _ => rfl)))
   (AC (AJ (i := 4) B4.nd rfl (by walk_at "O") (AG AT (pv 0) AB (fun _ _ => rfl)))
   (AC (AJ (i := 5) B4.nd rfl (by walk_at "O") (AG AT (pv 0) AB (fun _ _ => rfl)))
   (AC (AJ (i := 6) B4.nd rfl (by walk_at "O") (AF Al (AF B0 (pv 2) (pv 5)) (AF B0 (AF B0 (pv 1) (pv 4)) (pv 3))))
   (AE (AI (AR (KI T) (hr.mono (by decide)) (by rfl) T.CI.m T.CI.F.kp T.CI.b .nil Ad (AA (pv 6) (AA (AF B0 (pv 3) (pv 5)) AD)))))))))), ?_⟩
  have sa := ma.sm
  have sb := mb.sm
  have sc := mc.sm
  have sd := md.sm
  have sp := mp.sm
  have s2 := mp.mulS mc
  have s3 := mb.mulS md
  have hne : b * d ≠ 0 := Int.mul_ne_zero (by omega) (by omega)
  walk_at "Q"
  walk_at "RD"
  walk_at "AUTO"
  walk_at "NX"
  walk_at "Q"
  walk_at "RD"
  walk_at "AUTO"
  walk_at "NX"
  walk_at "Q"
  walk_at "RD"
  walk_at "AUTO"
  walk_at "NX"
  walk_at "Q"
  walk_at "RD"
  walk_at "AUTO"
  walk_at "NX"
  walk_at "Q"
  walk_at "RD"
  walk_at "AUTO"
  walk_at "NX"
  delta Gw
  walk_at "AUTO"
  exact fun q H' x y s e L => k q H' x y s e L
theorem EV : AY ["place", "height", "other", "second", "steps", "gain", "start", "rise"] ["place", "height", "other", "second"] (AH J8) := by walk_at "SC"
def IH : Sp := fun vs H Q _ => ∃ p0 h0 p1 h1 : Int, vs = [.int p0, .int h0, .int p1, .int h1] ∧ p0 ≠ p1 ∧ p0.natAbs ≤ 10 ^ 30 ∧ h0.natAbs ≤ 10 ^ 30 ∧ p1.natAbs ≤ 10 ^ 30 ∧ h1.natAbs ≤ 10 ^ 30 ∧
 ∀ q H' x y z v, AL H H' → H' q = some (.tup [.int x, .int y, .int z, .int v]) → IU (h0 * (p1 - p0) - p0 * (h1 - h0)) (p1 - p0) x y → IU (h1 - h0) (p1 - p0) z v → Q (.ref q) H'
theorem L0 (T : Tx K mg) : Ay P w K mg base CX0 3 T.No T.L7 ["place", "height", "other", "second"] IH := by
 refine T.DG.F.ok EV (fun vs H Q E h => ?_) (fun cdv A outer s H vs Q E hr h => ?_)
 ·obtain ⟨p0, h0, p1, h1, rfl, hne, b0, b1, b2, b3, k⟩ := h
  rfl
 ·obtain ⟨p0, h0, p1, h1, rfl, hne, b0, b1, b2, b3, k⟩ := h
  have hu := At hr
  refine ⟨_, (AC (AJ (i := 4) EV.nd rfl (by walk_at "O") (AF Am (pv 2) (pv 0)))
   (AC (AJ (i := 5) EV.nd rfl (by walk_at "O") (AF Am (pv 3) (pv 1)))
   (AC (AJ (i := 6) EV.nd rfl (by walk_at "O") (AR (KI T) (hr.mono (by decide)) (by rfl) T.CI.m T.CI.F.kp T.CI.b .nil Ad (AA (AF Am (AF B0 (pv 1) (pv 4)) (AF B0 (pv 0) (pv 5))) (AA (pv 4) AD))))
   (AC (AJ (i := 7) EV.nd rfl (by walk_at "O") (AR (KI T) (hr.mono (by decide)) (by rfl) T.CI.m T.CI.F.kp T.CI.b .nil Ad (AA (pv 5) (AA (pv 4) AD))))
   (AE (AI (Av (AA (AG AT (pv 6) AB (fun _ _ => rfl)) (AA (AG AT (pv 6) AB (fun _ _ => rfl)) (AA (AG AT (pv 7) AB (fun _ _ => rfl)) (AA (AG AT (pv 7) AB (fun _ _ => rfl)) AD))))))))))), ?_⟩
  have hs : p1 - p0 ≠ 0 := by omega
  have m1 : Sm (p1 - p0) := Sm.of (n := 10 ^ 31) (by omega) (by decide +kernel)
  have m2 : Sm (h1 - h0) := Sm.of (n := 10 ^ 31) (by omega) (by decide +kernel)
  have m3 : Sm p0 := Sm.of b0 (by decide +kernel)
  have m4 : Sm h0 := Sm.of b1 (by decide +kernel)
  walk_at "Q"
  walk_at "RD"
  walk_at "NX"
  walk_at "Q"
  walk_at "RD"
  walk_at "NX"
  walk_at "Q"
  delta Gw
  walk_at "AUTO"
  intro q1 H1 x y s1 e1 Lw1
  walk_at "NX"
  walk_at "Q"
  delta Gw
  walk_at "AUTO"
  intro q2 H2 z v s2 e2 Lw2
  walk_at "NX"
  walk_at "RD"
  walk_at "AUTO"
  exact k _ _ _ _ _ _ (by walk_at "SAME6") (by assumption) Lw1 Lw2
theorem G2 : AY ["throw", "gate", "height", "foot", "head"] ["throw", "gate"] (AH K3) := by walk_at "SC"
def NU (K : PySem.W.Frag) : Sp := fun vs H Q _ => ∃ (p g : Addr) (a b c d pl f h : Int), vs = [.ref p, .ref g] ∧ SqT K H p [.int a, .int b, .int c, .int d] ∧ SqT K H g [.int pl, .int f, .int h] ∧ 0 < b ∧ 0 < d ∧ a.natAbs ≤ 10 ^ 15 ∧ b.natAbs ≤ 10 ^ 15 ∧ c.natAbs ≤ 10 ^ 15 ∧ d.natAbs ≤ 10 ^ 15 ∧ pl.natAbs ≤ 10 ^ 15 ∧ f.natAbs ≤ 10 ^ 15 ∧ h.natAbs ≤ 10 ^ 15 ∧ ∀ H', AL H H' → Q (.bl (decide (Pas a b c d pl f h))) H'
theorem NV (T : Tx K mg) : Ay P w K mg base CX0 4 T.Oq T.Mx ["throw", "gate"] (NU K) := by
 refine T.EU.F.ok G2 (fun vs H Q E h => ?_) (fun cdv A outer s H vs Q E hr h => ?_)
 ·obtain ⟨p, g, a, b, c, d, pl, f, h, rfl, hp, hg, hb, hd, b1, b2, b3, b4, b5, b6, b7, k⟩ := h
  rfl
 ·obtain ⟨p, g, a, b, c, d, pl, f, h, rfl, hp, hg, hb, hd, b1, b2, b3, b4, b5, b6, b7, k⟩ := h
  have hu := At hr
  refine ⟨_, (AC (AJ (i := 2) G2.nd rfl (by walk_at "O") (AR (Nw T) (hr.mono (by decide)) (by rfl) T.El.m T.El.F.kp T.El.b .nil Ad (AA (pv 0) (AA (AG AT (pv 1) AB (fun _ _ => rfl)) AD))))
   (AC (AJ (i := 3) G2.nd rfl (by walk_at "O") (Av (AA (AG AT (pv 1) AB (fun _ _ => rfl)) (AA AB AD))))
   (AC (AJ (i := 4) G2.nd rfl (by walk_at "O") (Av (AA (AG AT (pv 1) AB (fun _ _ => rfl)) (AA AB AD))))
   (AE (AI (K9 (BY NM (AR (IK T) (hr.mono (by decide)) (by rfl) T.Bm.m T.Bm.F.kp T.Bm.b .nil Ad (AA (pv 3) (AA (pv 2) AD))) AB (AS _)) (IJ (BY NM (AR (IK T) (hr.mono (by decide)) (by rfl) T.Bm.m T.Bm.F.kp T.Bm.b .nil Ad (AA (pv 2) (AA (pv 4) AD))) AB (AS _))))))))), ?_⟩
  have md : ∀ {i : Int}, i.natAbs ≤ 10 ^ 15 → Md i := fun h => Nat.le_trans h (by decide +kernel)
  walk_at "Q"
  delta JI
  walk_at "AUTO"
  refine ⟨a, b, c, d, hp, hb, hd, md b1, md b2, md b3, md b4, md b5, fun q H1 x y s1 e1 L => ?_⟩
  have bd := CS b2 b4
  have bt1 := CS b1 b4
  have bt2 := CS (CS b5 b3) b2
  have bt : (a * d + pl * c * b).natAbs ≤ 10 ^ 46 := by omega
  have sx : Sm x := Sm.of (Nat.le_trans L.absx bt) (by decide +kernel)
  have sy : Sm y := Sm.of (Nat.le_trans L.absy bd) (by decide +kernel)
  have sf : Sm f := Sm.of b6 (by decide +kernel)
  have sh : Sm h := Sm.of b7 (by decide +kernel)
  have s0 : Sm 1 := by unfold Sm; decide +kernel
  have E := L.eq
  have hy := L.pos
  have hbd : 0 < b * d := Int.mul_pos hb hd
  walk_at "NX"
  walk_at "Q"
  walk_at "RD"
  walk_at "AUTO"
  walk_at "NX"
  walk_at "Q"
  walk_at "RD"
  walk_at "AUTO"
  walk_at "NX"
  delta Ig
  walk_at "AUTO"
  refine ⟨f, 1, (by walk_at "SQT4"), x, y, (by walk_at "SQT4"), sf, s0, sx, sy, ?_⟩
  have c1 : (LB (f * y) (x * 1) ≤ 0) ↔ f * (b * d) ≤ a * d + pl * c * b := by
   rw [Int.mul_one]
   have e : LB (f * y) x ≤ 0 ↔ f * y ≤ x := by unfold LB; split <;> (try split) <;> omega
   rw [e]
   generalize a * d + pl * c * b = t at *
   generalize b * d = u at *
   exact Ts hy hbd E
  have c2 : (LB (x * 1) (h * y) ≤ 0) ↔ a * d + pl * c * b ≤ h * (b * d) := by
   rw [Int.mul_one]
   have e : LB x (h * y) ≤ 0 ↔ x ≤ h * y := by unfold LB; split <;> (try split) <;> omega
   rw [e]
   generalize a * d + pl * c * b = t at *
   generalize b * d = u at *
   exact UO hy hbd E
  by_cases g1 : f * (b * d) ≤ a * d + pl * c * b
  ·rw [if_pos (decide_eq_true (c1.mpr g1))]
   refine ⟨x, y, (by walk_at "SQT4"), h, 1, (by walk_at "SQT4"), sx, sy, sh, s0, ?_⟩
   have e : decide (LB (x * 1) (h * y) ≤ 0) = decide (Pas a b c d pl f h) := by
    unfold Pas
    simp only [c2, g1, true_and]
   rw [e]
   exact k _ (by walk_at "SAME5")
  ·rw [if_neg (by simp only [decide_eq_true_eq]; exact fun z => g1 (c1.mp z))]
   have e : decide (Pas a b c d pl f h) = false := by
    unfold Pas
    simp only [g1, false_and, decide_false]
   rw [e] at k
   exact k _ (by walk_at "SAME5")
theorem Mo : AY ["throw", "gates"] ["throw", "gates"] (AH Fd) := by walk_at "SC"
def HH (K : PySem.W.Frag) : Sp := fun vs H Q _ => ∃ (q l : Addr) (t : Thr) (as : List Addr) (gs : List G), vs = [.ref q, .ref l] ∧ SqT K H q t.vs ∧ SqL K H l (as.map V.ref) ∧ Az H as gs ∧ OkT t ∧ gs.length ≤ 1000 ∧ (∀ g ∈ gs, OkG g) ∧ ∀ H', AL H H' → Q (.bl (decide (∀ g ∈ gs, t.pas g))) H'
theorem MT (T : Tx K mg) : Ay P w K mg base CX0 5 T.JR T.Hc ["throw", "gates"] (HH K) := by
 refine T.D5.F.ok Mo (fun vs H Q E h => ?_) (fun cdv A outer s H vs Q E hr h => ?_)
 ·obtain ⟨q, l, t, as, gs, rfl, hq, hl, ga, ot, hz, ok, k⟩ := h
  rfl
 ·obtain ⟨q, l, t, as, gs, rfl, hq, hl, ga, ot, hz, ok, k⟩ := h
  have hu := At hr
  refine ⟨_, (AE (AI (AM (S8 (by rfl)) (by rfl) T.z_all WI (AA (JK rfl (⟨rfl, by decide +kernel, by decide +kernel, by decide +kernel, rfl, by decide +kernel, by with_unfolding_all rfl, by rfl, by rfl, by rfl⟩ : BU _ _ "gate" ["throw"] [0]) (Bi (pv 1)) (fun _ _ _ _  => (AR (NV T) (hr.mono (by decide)) (by rfl) T.EU.m T.EU.F.kp T.EU.b .nil Ad (AA (pv 1) (AA (pv 0) AD)))) (fun _ _ _ _ => K1)) AD)))), ?_⟩
  delta JV
  walk_at "AUTO"
  intro D nD
  refine Ro (F := fun _ v g => v = V.bl (decide (t.pas g))) (fun _ _ _ _ _ h => h) (fun _ _ _ _ _ _ h => h) hl ga nD hz ?_ ?_
  ·intro v g H1 R hg s1 ev hR
   obtain ⟨p1, p2, p3, p4, p5⟩ := ok g hg
   delta Option.join_some
   walk_at "AUTO"
   unfold NU
   refine ⟨_, _, t.a, t.b, t.c, t.d, g.p, g.f, g.h, rfl, s1.tup hq, SqT.of ev, ot.b0, ot.d0, Nat.le_trans ot.a1 (by decide), Nat.le_trans ot.b1 (by decide), Nat.le_trans ot.c1 (by decide), Nat.le_trans ot.d1 (by decide), by omega, by omega, by omega, fun H2 s2 => hR _ _ s2 rfl⟩
  ·intro H1 ys s1 e1 pr
   have ey := Paired.eq_map pr
   subst ey
   refine ⟨gs.map fun g => decide (t.pas g), SqL.of (by rw [e1, List.map_map]; rfl), ?_⟩
   have e : (gs.map fun g => decide (t.pas g)).all id = decide (∀ g ∈ gs, t.pas g) := by
    rw [Bool.eq_iff_iff]
    simp
   rw [e]
   exact k _ s1
theorem Jv : AY ["throw", "ordered"] ["throw", "ordered"] (AH Dk) := by walk_at "SC"
def KB (K : PySem.W.Frag) : Sp := fun vs H Q _ => ∃ (q l : Addr) (a b c d : Int) (as : List Addr) (gs : List G), vs = [.ref q, .ref l] ∧ H q = some (.tup [.int a, .int b, .int c, .int d]) ∧ ¬ badT a b c d ∧ SqL K H l (as.map V.ref) ∧ Az H as gs ∧ gs.length ≤ 40 ∧ (∀ g ∈ gs, OkG g) ∧ ∀ D H', H D = none → AL H H' → H' D = some (.lst ((Aw (gs.filter (XH a b c d))).map V.int)) → Q (.ref D) H'
theorem J5 (T : Tx K mg) : Ay P w K mg base CX0 5 T.GH T.FT ["throw", "ordered"] (KB K) := by
 refine T.CL.F.ok Jv (fun vs H Q E h => ?_) (fun cdv A outer s H vs Q E hr h => ?_)
 ·obtain ⟨q, l, a, b, c, d, as, gs, rfl, hq, nb, hl, ga, l40, ok, k⟩ := h
  rfl
 ·obtain ⟨q, l, a, b, c, d, as, gs, rfl, hq, nb, hl, ga, l40, ok, k⟩ := h
  have hu := At hr
  refine ⟨_, (AE (AI (JK rfl (⟨rfl, by decide +kernel, by decide +kernel, by decide +kernel, rfl, by decide +kernel, by with_unfolding_all rfl, by rfl, by rfl, by rfl⟩ : BU _ _ "gate" ["throw"] [0]) (Bi (pv 1)) (fun _ _ _ _  => (AG (Fb (K := K) rfl) (pv 0) AB (fun _ _ => rfl))) (fun _ _ _ _ => (K0 (Bc (AR (NV T) (hr.mono (by decide)) (by rfl) T.EU.m T.EU.F.kp T.EU.b .nil Ad (AA (pv 1) (AA (pv 0) AD))))))))), ?_⟩
  have h1 : ¬ b < 1 := fun z => nb (.inl z)
  have h2 : ¬ d < 1 := fun z => nb (.inr (.inl z))
  have h3 : ∀ x ∈ [a, b, c, d], x.natAbs ≤ 10 ^ 15 := fun x hx => by
   have h4 : ¬ x < -999999999 := fun z => nb (.inr (.inr ⟨x, hx, .inl z⟩))
   have h5 : ¬ 999999999 < x := fun z => nb (.inr (.inr ⟨x, hx, .inr z⟩))
   omega
  delta JV
  refine ⟨⟨_, hl⟩, fun D nD => ?_⟩
  refine OG (XH a b c d) (fun g => V.int g.p) hl ga nD (by omega) (fun v g H1 R hg s1 ev hR => ?_) (fun v g H1 R hg s1 ev hR => ?_) fun H1 s1 e1 => ?_
  ·have og := ok g hg
   have o1 := og.p0
   have o2 := og.p1
   have o3 := og.f0
   have o4 := og.fh
   have o5 := og.h1
   delta Option.join_some
   refine ⟨q, v, a, b, c, d, g.p, g.f, g.h, rfl, SqT.of (s1.get hq), SqT.of ev, by omega, by omega, h3 a (by simp), h3 b (by simp), h3 c (by simp), h3 d (by simp), by omega, by omega, by omega, fun H2 s2 => ⟨_, rfl, hR H2 s2⟩⟩
  ·delta Option.join_some
   exact ⟨_, SqT.of ev, _, rfl, hR⟩
  ·exact k D H1 nD s1 (by rw [e1, List.map_map]; rfl)
theorem Kt : AY ["earlier", "later"] ["earlier", "later"] (AH EL) := by walk_at "SC"
def F3 (K : PySem.W.Frag) : Sp := fun vs H Q _ => ∃ (a b : Addr) (x y : G), vs = [.ref a, .ref b] ∧ SqT K H a (G.vs x) ∧ SqT K H b (G.vs y) ∧ OkG x ∧ OkG y ∧ ∀ D H', AL H H' → H' D = some (.tup [.int (y.h - x.f), .int (y.p - x.p)]) → Q (.ref D) H'
theorem F6 (T : Tx K mg) : Ay P w K mg base CX0 1 T.Ga T.F4 ["earlier", "later"] (F3 K) := by
 refine T.BP.F.ok Kt (fun vs H Q E h => ?_) (fun cdv A outer s H vs Q E hr h => ?_)
 ·obtain ⟨a, b, x, y, rfl, ha, hb, o1, o2, k⟩ := h
  rfl
 ·obtain ⟨a, b, x, y, rfl, ha, hb, o1, o2, k⟩ := h
  have hu := At hr
  refine ⟨_, (AE (AI (Av (AA (AF Am (AG AT (pv 1) AB (fun _ _ => rfl)) (AG AT (pv 0) AB (fun _ _ => rfl))) (AA (AF Am (AG AT (pv 1) AB (fun _ _ => rfl)) (AG AT (pv 0) AB (fun _ _ => rfl))) AD))))), ?_⟩
  obtain ⟨p1, p2, p3, p4, p5⟩ := id o1
  obtain ⟨q1, q2, q3, q4, q5⟩ := id o2
  walk_at "RD"
  walk_at "AUTO"
  exact k _ _ hs he
theorem BL : AY ["ordered", "pair", "index", "earlier", "later"] ["ordered"] (AH Dg) := by walk_at "SC"
structure KQ (H : Hp) (D : Addr) (gs : List G) (ax ay : Addr) (x y : G) : Prop where
 eD : H D = some (.tup [.ref ax, .ref ay])
 ex : H ax = some (.tup (G.vs x))
 ey : H ay = some (.tup (G.vs y))
 hx : x ∈ gs
 hy : y ∈ gs
 lt : x.p < y.p
theorem KQ.same {H H' : Hp} {D : Addr} {gs : List G} {ax ay : Addr} {x y : G} (h : KQ H D gs ax ay x y) (s : AL H H') : KQ H' D gs ax ay x y := ⟨s.get h.eD, s.get h.ex, s.get h.ey, h.hx, h.hy, h.lt⟩
def FE (K : PySem.W.Frag) : Sp := fun vs H Q _ => ∃ (l : Addr) (as : List Addr) (gs : List G), vs = [.ref l] ∧ SqL K H l (as.map V.ref) ∧ Az H as gs ∧ Asc gs ∧ 2 ≤ gs.length ∧ gs.length ≤ 1000 ∧ (∀ g ∈ gs, OkG g) ∧ ∀ D H' ax ay x y, AL H H' → KQ H' D gs ax ay x y → (∀ x' ∈ gs, ∀ y' ∈ gs, x'.p < y'.p → LeR x y x' y') → Q (.ref D) H'
def Ue (gs : List G) (x y : G) (i j : Nat) : Prop := ∀ i' j' u v, i' < j' → gs[i']? = some u → gs[j']? = some v → (i' < i ∨ (i' = i ∧ j' < j)) → LeR x y u v
def Wt1 (l : Addr) (gs : List G) (H : Hp) : Nat → St → Hp → Prop := fun i σ H' => ∃ D ax ay x y o1 o2 o3, σ = [some (.ref l), some (.ref D), o1, o2, o3] ∧ AL H H' ∧ KQ H' D gs ax ay x y ∧ Ue gs x y i 0
def Wt2 (l ea : Addr) (gs : List G) (H : Hp) (i : Nat) : Nat → St → Hp → Prop := fun j σ H' => ∃ D ax ay x y o3, σ = [some (.ref l), some (.ref D), some (.int (i : Int)), some (.ref ea), o3] ∧ AL H H' ∧ KQ H' D gs ax ay x y ∧ Ue gs x y i (i + 1 + j)
theorem KH (T : Tx K mg) : Ay P w K mg base CX0 2 T.F9 T.FQ ["ordered"] (FE K) := by
 refine T.CM.F.ok BL (fun vs H Q E h => ?_) (fun cdv A outer s H vs Q E hr h => ?_)
 ·obtain ⟨l, as, gs, rfl, hl, ga, ha, l2, hz, ok, k⟩ := h
  rfl
 ·obtain ⟨l, as, gs, rfl, hl, ga, ha, l2, hz, ok, k⟩ := h
  have hu := At hr
  refine ⟨_, (AC (AJ (i := 1) BL.nd rfl (by walk_at "O") (Av (AA (AG AN (pv 0) AB (fun _ _ => rfl)) (AA (AG AN (pv 0) AB (fun _ _ => rfl)) AD))))
   (AC (BO PassesOwn.never rfl (Qn (by rfl) T.KY (AA (pv 0) AD)) (Fm (n := 2) rfl (Ao (AZ (i := 2) BL.nd rfl (by walk_at "O")) (Ao (AZ (i := 3) BL.nd rfl (by walk_at "O")) Cy)))
    (AE (BO PassesOwn.never rfl (Bi (JC Jm (pv 0) (Kx (AF Al (pv 2) AB)) Ky)) (AZ (i := 4) BL.nd rfl (by walk_at "O"))
      (AE (Ah (AQ Hz (AR (IK T) (hr.mono (by decide)) (by rfl) T.Bm.m T.Bm.F.kp T.Bm.b .nil Ad (AA (AR (F6 T) (hr.mono (by decide)) (by rfl) T.BP.m T.BP.F.kp T.BP.b .nil Ad (AA (pv 3) (AA (pv 4) AD))) (AA (AR (F6 T) (hr.mono (by decide)) (by rfl) T.BP.m T.BP.F.kp T.BP.b .nil Ad (AA (AG AT (pv 1) AB (fun _ _ => rfl)) (AA (AG AT (pv 1) AB (fun _ _ => rfl)) AD))) AD))) AB (AS _)) (AE (AJ (i := 1) BL.nd rfl (by walk_at "O") (Av (AA (pv 3) (AA (pv 4) AD)))))
        AV)))))
   (AE (AI (pv 1))))), ?_⟩
  have la := ga.len
  have h0 : 0 < gs.length := by omega
  have h1 : 1 < gs.length := by omega
  obtain ⟨a0, f0, e0⟩ := ga.get (List.getElem?_eq_getElem h0)
  obtain ⟨a1, f1, e1⟩ := ga.get (List.getElem?_eq_getElem h1)
  have i0 : atI (as.map V.ref) 0 = some (V.ref a0) := DV (i := 0) f0
  have i1 : atI (as.map V.ref) 1 = some (V.ref a1) := DV (i := 1) f1
  walk_at "RD"
  walk_at "AUTO"
  refine ⟨_, rfl, l, rfl, ⟨_, hs.seq hl⟩, Oa (xs := as.map V.ref) (Wt1 l gs H') ⟨p, a0, a1, gs[0], gs[1], none, none, none, rfl, AL.refl _, ⟨he, hs.get e0, hs.get e1, List.getElem_mem h0, List.getElem_mem h1, F0 ha (List.getElem?_eq_getElem h0) (List.getElem?_eq_getElem h1) (by omega)⟩, fun i' j' u v _ _ _ hh => by omega⟩ (fun i σ H1 _ ⟨_, _, _, _, _, _, _, _, _, s1, _, _⟩ => (hs.trans s1).seq hl) ?_ ?_⟩
  ·rintro i vv σ H1 pp H2 hx ⟨D, ax, ay, x, y, o1, o2, o3, rfl, s1, pa, le⟩ hn s2 e2
   have hi : i < gs.length := by
    have := (List.getElem?_eq_some_iff.mp hx).1
    rw [List.length_map] at this
    omega
   obtain ⟨ea, fe, ee⟩ := ga.get (List.getElem?_eq_getElem hi)
   have ex : vv = V.ref ea := by
    rw [List.getElem?_map, fe] at hx
    exact (Option.some.inj hx).symm
   subst ex
   have s02 := hs.trans (s1.trans s2)
   have gu := List.getElem?_eq_getElem hi
   generalize hu0 : gs[i] = u at ee gu
   have ou := ok u (List.mem_of_getElem? gu)
   delta Js FL Jx
   refine ⟨_, SqT.of e2, rfl, _, _, rfl, _, _, rfl, rfl, ?_⟩
   refine ⟨_, rfl, _, rfl, _, _, rfl, rfl, _, rfl, l, rfl, _, s02.seq hl, fun S H3 nS s3 eS => ?_⟩
   rw [show (i : Int) + 1 = ((i + 1 : Nat) : Int) by omega, NZ, ← List.map_drop] at eS
   have s03 := s02.trans s3
   refine ⟨S, rfl, ⟨_, SqL.of eS⟩, EQ (xs := (as.drop (i + 1)).map V.ref) (Wt2 l ea gs H3 i) ⟨D, ax, ay, x, y, o3, rfl, AL.refl _, (pa.same s2).same s3, fun i' j' u' v' h1 h2 h3 h4 => le i' j' u' v' h1 h2 h3 (by omega)⟩ (fun j σ H4 _ ⟨_, _, _, _, _, _, _, s4, _, _⟩ => SqL.of (s4.get eS)) ?_ ?_⟩
   ·rintro j vv σ H4 hx ⟨D, ax, ay, x, y, o3, rfl, s4, pa, le⟩
    have hj : i + 1 + j < gs.length := by
     have := (List.getElem?_eq_some_iff.mp hx).1
     rw [List.length_map, List.length_drop] at this
     omega
    obtain ⟨la', fl, el⟩ := ga.get (List.getElem?_eq_getElem hj)
    have ex : vv = V.ref la' := by
     rw [List.getElem?_map, List.getElem?_drop, fl] at hx
     exact (Option.some.inj hx).symm
    subst ex
    have s04 := s03.trans s4
    have gv := List.getElem?_eq_getElem hj
    generalize hv0 : gs[i + 1 + j] = v at el gv
    have ov := ok v (List.mem_of_getElem? gv)
    have eu4 := s04.get ee
    have ev4 := s04.get el
    have ex4 := pa.ex
    have ey4 := pa.ey
    have eD4 := pa.eD
    have luv := F0 ha gu gv (by omega)
    have lxy := pa.lt
    have ox := ok x pa.hx
    have oy := ok y pa.hy
    walk_at "RD"
    walk_at "AUTO"
    unfold F3 Ig
    refine ⟨_, _, u, v, rfl, SqT.of eu4, SqT.of ev4, ou, ov, fun D1 H5 s5 e5 => ?_⟩
    walk_at "AUTO"
    refine ⟨_, _, x, y, rfl, (by walk_at "SQT4"), (by walk_at "SQT4"), ox, oy, fun D2 H6 s6 e6 => ?_⟩
    obtain ⟨p1, p2, p3, p4, p5⟩ := id ou
    obtain ⟨q1, q2, q3, q4, q5⟩ := id ov
    obtain ⟨r1, r2, r3, r4, r5⟩ := id ox
    obtain ⟨t1, t2, t3, t4, t5⟩ := id oy
    have w1 : Sm (v.h - u.f) := Sm.of (n := 10 ^ 10) (by omega) (by decide +kernel)
    have w2 : Sm (v.p - u.p) := Sm.of (n := 10 ^ 10) (by omega) (by decide +kernel)
    have w3 : Sm (y.h - x.f) := Sm.of (n := 10 ^ 10) (by omega) (by decide +kernel)
    have w4 : Sm (y.p - x.p) := Sm.of (n := 10 ^ 10) (by omega) (by decide +kernel)
    refine ⟨_, _, _, _, _, _, rfl, SqT.of (s6.get e5), SqT.of e6, w1, w2, w3, w4, ?_⟩
    have ec : LB ((v.h - u.f) * (y.p - x.p)) ((y.h - x.f) * (v.p - u.p)) < 0 ↔ ¬ LeR x y u v := by
     unfold LB LeR
     rw [Int.not_le]
     split <;> (try split) <;> omega
    have s46 := s5.trans s6
    refine ⟨_, rfl, ?_⟩
    by_cases hb : LeR x y u v
    ·rw [if_neg (fun z => ec.mp (of_decide_eq_true z) hb)]
     refine ⟨D, ax, ay, x, y, _, rfl, s4.trans s46, pa.same s46, fun i' j' u' v' h1 h2 h3 h4 => ?_⟩
     rcases (by omega : (i' < i ∨ (i' = i ∧ j' < i + 1 + j)) ∨ (i' = i ∧ j' = i + 1 + j)) with z | ⟨rfl, rfl⟩
     ·exact le i' j' u' v' h1 h2 h3 z
     ·cases gu.symm.trans h2
      cases gv.symm.trans h3
      exact hb
    ·rw [if_pos (decide_eq_true (ec.mpr hb))]
     walk_at "AUTO"
     have lt' : LeR u v x y := by
      unfold LeR at hb ⊢
      rw [Int.not_le] at hb
      exact Int.le_of_lt hb
     refine ⟨p, ea, la', u, v, _, rfl, s4.trans (s46.trans hs), ⟨he, hs.get (s46.get eu4), hs.get (s46.get ev4), List.mem_of_getElem? gu, List.mem_of_getElem? gv, luv⟩, fun i' j' u' v' h1 h2 h3 h4 => ?_⟩
     rcases (by omega : (i' < i ∨ (i' = i ∧ j' < i + 1 + j)) ∨ (i' = i ∧ j' = i + 1 + j)) with z | ⟨rfl, rfl⟩
     ·exact LeR.trans luv lxy (F0 ha h2 h3 h1) lt' (le i' j' u' v' h1 h2 h3 z)
     ·cases gu.symm.trans h2
      cases gv.symm.trans h3
      exact LeR.refl u v
   ·rintro σ H4 ⟨D, ax, ay, x, y, o3, rfl, s4, pa, le⟩
    refine ⟨D, ax, ay, x, y, _, _, _, rfl, s1.trans (s2.trans (s3.trans s4)), pa, fun i' j' u' v' h1 h2 h3 h4 => ?_⟩
    have hj' := (List.getElem?_eq_some_iff.mp h3).1
    rw [List.length_map, List.length_drop] at le
    exact le i' j' u' v' h1 h2 h3 (by omega)
  ·rintro σ H1 ⟨D, ax, ay, x, y, o1, o2, o3, rfl, s1, pa, le⟩
   rw [List.length_map] at le
   walk_at "RD"
   refine k D H1 ax ay x y (hs.trans s1) pa fun x' hx' y' hy' lt' => ?_
   obtain ⟨i', hi', rfl⟩ := List.getElem_of_mem hx'
   obtain ⟨j', hj', rfl⟩ := List.getElem_of_mem hy'
   have q1 := List.getElem?_eq_getElem hi'
   have q2 := List.getElem?_eq_getElem hj'
   exact le i' j' _ _ (Gz ha q1 q2 lt') q1 q2 (by omega)
theorem BW : AY ["ordered", "pair", "foot_place", "head_place", "throw"] ["ordered"] (AH DO) := by walk_at "SC"
def Ei (K : PySem.W.Frag) : Sp := fun vs H Q _ => ∃ (l : Addr) (as : List Addr) (gs : List G), vs = [.ref l] ∧ SqL K H l (as.map V.ref) ∧ Az H as gs ∧ Asc gs ∧ 2 ≤ gs.length ∧ gs.length ≤ 1000 ∧ (∀ g ∈ gs, OkG g) ∧ (∀ H', AL H H' → ¬ Jk gs → Q .non H') ∧ ∀ D H' q t x y, AL H H' → Tl H' D gs q t x y → Q (.ref D) H'
theorem Ja (T : Tx K mg) : Ay P w K mg base CX0 6 T.FF T.Ep ["ordered"] (Ei K) := by
 refine T.B2.F.ok BW (fun vs H Q E h => ?_) (fun cdv A outer s H vs Q E hr h => ?_)
 ·obtain ⟨l, as, gs, rfl, hl, ga, ha, l2, hz, ok, kn, k⟩ := h
  rfl
 ·obtain ⟨l, as, gs, rfl, hl, ga, ha, l2, hz, ok, kn, k⟩ := h
  have hu := At hr
  refine ⟨_, (AC (AJ (i := 1) BW.nd rfl (by walk_at "O") (AR (KH T) (hr.mono (by decide)) (by rfl) T.CM.m T.CM.F.kp T.CM.b .nil Ad (AA (pv 0) AD)))
   (AC (AJ (i := 2) BW.nd rfl (by walk_at "O") (AG AT (AG AT (pv 1) AB (fun _ _ => rfl)) AB (fun _ _ => rfl)))
   (AC (AJ (i := 3) BW.nd rfl (by walk_at "O") (AG AT (AG AT (pv 1) AB (fun _ _ => rfl)) AB (fun _ _ => rfl)))
   (AC (AJ (i := 4) BW.nd rfl (by walk_at "O") (AR (L0 T) (hr.mono (by decide)) (by rfl) T.DG.m T.DG.F.kp T.DG.b .nil Ad (AA (pv 2) (AA (AG AT (AG AT (pv 1) AB (fun _ _ => rfl)) AB (fun _ _ => rfl)) (AA (pv 3) (AA (AG AT (AG AT (pv 1) AB (fun _ _ => rfl)) AB (fun _ _ => rfl)) AD))))))
   (AC (Ah (CO (Bc (AR (MT T) (hr.mono (by decide)) (by rfl) T.D5.m T.D5.F.kp T.D5.b .nil Ad (AA (pv 4) (AA (pv 0) AD))))) (AE (AI QT))
    AV)
   (AE (AI (Av (AA (pv 4) (AA (pv 2) (AA (pv 3) AD))))))))))), ?_⟩
  walk_at "RD"
  walk_at "AUTO"
  unfold FE
  refine ⟨_, as, gs, rfl, hl, ga, ha, l2, hz, ok, fun D H1 ax ay x y s1 pa le => ?_⟩
  have eD := pa.eD
  have ex := pa.ex
  have ey := pa.ey
  have lxy := pa.lt
  have ox := ok x pa.hx
  have oy := ok y pa.hy
  obtain ⟨r1, r2, r3, r4, r5⟩ := id ox
  obtain ⟨t1, t2, t3, t4, t5⟩ := id oy
  walk_at "AUTO"
  unfold IH
  refine ⟨x.p, x.f, y.p, y.h, rfl, by omega, by omega, by omega, by omega, by omega, fun q H2 a b c d s2 e2 L1 L2 => ?_⟩
  have lo := OR lxy L1 L2
  have ot := RA (by omega) (by omega) (by omega) (by omega) L1 L2
  walk_at "AUTO"
  unfold HH
  refine ⟨_, _, ⟨a, b, c, d⟩, as, gs, rfl, SqT.of e2, (s1.trans s2).seq hl, ga.same (s1.trans s2), ot, hz, ok, fun H3 s3 => ?_⟩
  by_cases hb : ∀ g ∈ gs, (⟨a, b, c, d⟩ : Thr).pas g
  ·rw [decide_eq_true hb]
   have e3 := s3.get e2
   walk_at "AUTO"
   exact k _ _ q ⟨a, b, c, d⟩ x y (s1.trans (s2.trans (s3.trans hs))) ⟨he, hs.get e3, ot, hb, pa.hx, pa.hy, lxy, lo.2.1, lo.2.2⟩
  ·rw [decide_eq_false hb]
   walk_at "AUTO"
   exact kn _ (s1.trans (s2.trans s3)) (IV ha ok pa.hx pa.hy lxy le fun z => hb fun g hg => (lo.1 g).mpr (z g hg))
theorem Lr : AY ["height"] ["height"] (AH Ez) := by walk_at "SC"
def ET : Sp := fun vs H Q _ => ∃ h : Int, vs = [.int h] ∧ ∀ D H', AL H H' → H' D = some (.tup [.int h, .int 1, .int 0, .int 1]) → Q (.ref D) H'
theorem PN {h : Int} (b : h.natAbs ≤ 1000) : OkT ⟨h, 1, 0, 1⟩ := ⟨by show h.natAbs ≤ _; omega, by show (1 : Int).natAbs ≤ _; decide, by show (0 : Int).natAbs ≤ _; decide, by show (1 : Int).natAbs ≤ _; decide, by show (0 : Int) < 1; decide, by show (0 : Int) < 1; decide, by show Int.gcd h 1 = 1; simp, by show Int.gcd 0 1 = 1; decide⟩
theorem RY {g : G} (o : OkG g) : (⟨g.f, 1, 0, 1⟩ : Thr).pas g := by
 obtain ⟨_, _, _, h, _⟩ := o
 show Pas g.f 1 0 1 g.p g.f g.h
 unfold Pas
 constructor <;> simp <;> omega
theorem GN (T : Tx K mg) : Ay P w K mg base CX0 1 T.IB T.GS ["height"] ET := by
 refine T.Ba.F.ok Lr (fun vs H Q E h => ?_) (fun cdv A outer s H vs Q E hr h => ?_)
 ·obtain ⟨h, rfl, k⟩ := h
  rfl
 ·obtain ⟨h, rfl, k⟩ := h
  have hu := At hr
  refine ⟨_, (AE (AI (Av (AA (pv 0) (AA AB (AA AB (AA AB AD))))))), ?_⟩
  walk_at "RD"
  walk_at "AUTO"
  exact k _ _ hs he
theorem F8 : AY ["ordered", "found"] ["ordered"] (AH EI) := by walk_at "SC"
def Kn (K : PySem.W.Frag) : Sp := fun vs H Q _ => ∃ (l : Addr) (as : List Addr) (gs : List G), vs = [.ref l] ∧ SqL K H l (as.map V.ref) ∧ Az H as gs ∧ Asc gs ∧ gs.length ≤ 1000 ∧ (∀ g ∈ gs, OkG g) ∧ (∀ H', AL H H' → ¬ Jk gs → Q .non H') ∧ ∀ D H' t, AL H H' → H' D = some (.tup t.vs) → OkT t → (∀ g ∈ gs, t.pas g) → Q (.ref D) H'
theorem Ks (T : Tx K mg) : Ay P w K mg base CX0 7 T.GU T.GA ["ordered"] (Kn K) := by
 refine T.Cw.F.ok F8 (fun vs H Q E h => ?_) (fun cdv A outer s H vs Q E hr h => ?_)
 ·obtain ⟨l, as, gs, rfl, hl, ga, ha, hz, ok, kn, k⟩ := h
  rfl
 ·obtain ⟨l, as, gs, rfl, hl, ga, ha, hz, ok, kn, k⟩ := h
  have hu := At hr
  refine ⟨_, (AC (Ah (AQ A5 (AM AU (by rfl) T.A8 Ax (AA (pv 0) AD)) AB (AS _)) (AE (AI (AR (GN T) (hr.mono (by decide)) (by rfl) T.Ba.m T.Ba.F.kp T.Ba.b .nil Ad (AA AB AD))))
    AV)
   (AC (Ah (AQ A5 (AM AU (by rfl) T.A8 Ax (AA (pv 0) AD)) AB (AS _)) (AE (AI (AR (GN T) (hr.mono (by decide)) (by rfl) T.Ba.m T.Ba.F.kp T.Ba.b .nil Ad (AA (AG AT (AG AN (pv 0) AB (fun _ _ => rfl)) AB (fun _ _ => rfl)) AD))))
    AV)
   (AC (AJ (i := 1) F8.nd rfl (by walk_at "O") (AR (Ja T) (hr.mono (by decide)) (by rfl) T.B2.m T.B2.F.kp T.B2.b .nil Ad (AA (pv 0) AD)))
   (AC (Ah (AQ Xf (pv 1) QT (AS _)) (AE (AI QT))
    AV)
   (AE (AI (AG AT (pv 1) AB (fun _ _ => rfl)))))))), ?_⟩
  have la := ga.len
  walk_at "RD"
  walk_at "AUTO"
  rw [List.length_map, la]
  by_cases c0 : gs.length = 0
  ·have eg := List.eq_nil_of_length_eq_zero c0
   rw [if_pos (decide_eq_true (by omega))]
   unfold ET
   refine ⟨0, rfl, fun D H1 s1 e1 => k D H1 ⟨0, 1, 0, 1⟩ s1 e1 (PN (by decide)) fun g hg => ?_⟩
   rw [eg] at hg
   exact absurd hg (by simp)
  rw [if_neg (fun z => c0 (by have := of_decide_eq_true z; omega))]
  walk_at "AUTO"
  rw [List.length_map, la]
  by_cases c1 : gs.length = 1
  ·rw [if_pos (decide_eq_true (by omega))]
   match gs, ga, c1, ok, k with
   | [g], ga, _, ok, k =>
    obtain ⟨a0, f0, e0⟩ := ga.get (i := 0) (g := g) rfl
    have i0 : atI (as.map V.ref) 0 = some (V.ref a0) := DV (i := 0) f0
    have og := ok g (by simp)
    obtain ⟨q1, q2, q3, q4, q5⟩ := id og
    walk_at "AUTO"
    unfold ET
    refine ⟨g.f, rfl, fun D H1 s1 e1 => k D H1 ⟨g.f, 1, 0, 1⟩ s1 e1 (PN (by omega)) fun g' hg => ?_⟩
    rw [List.mem_singleton.mp hg]
    exact RY og
  rw [if_neg (fun z => c1 (by have := of_decide_eq_true z; omega))]
  walk_at "AUTO"
  unfold Ei
  refine ⟨_, as, gs, rfl, hl, ga, ha, by omega, hz, ok, fun H1 s1 nb => ?_, fun D H1 q t x y s1 fa => ?_⟩
  ·walk_at "AUTO"
   exact kn _ s1 nb
  ·have eD := fa.eD
   walk_at "AUTO"
   exact k q H1 t s1 fa.eq fa.ok fa.all
theorem Bj : AY ["ordered", "throws", "index", "earlier", "later"] ["ordered"] (AH EK) := by walk_at "SC"
structure TrA (H : Hp) (TL : Addr) (gs : List G) (n : Nat) (don : Nat → Nat → Prop) (qs : List Addr) (ts : List Thr) : Prop where
 eT : H TL = some (.lst (qs.map V.ref))
 pr : Paired (fun q (t : Thr) => H q = some (.tup t.vs)) qs ts
 ok : ∀ t ∈ ts, OkT t
 one : ∃ t ∈ ts, ∃ g ∈ gs, t.pas g
 len : qs.length ≤ n
 two : ∀ (i j : Nat) (x y : G), gs[i]? = some x → gs[j]? = some y → i < j → don i j → ∃ t ∈ ts, ∀ g : G, t.pas g ↔ Gf (x.f * y.p - y.h * x.p) (y.h - x.f) (y.p - x.p) g
theorem TrA.same {H H' : Hp} {TL : Addr} {gs : List G} {n : Nat} {don : Nat → Nat → Prop} {qs : List Addr} {ts : List Thr} (h : TrA H TL gs n don qs ts) (s : AL H H') : TrA H' TL gs n don qs ts := ⟨s.get h.eT, Paired.mapP h.pr fun _ _ e => s.get e, h.ok, h.one, h.len, h.two⟩
def Kr (K : PySem.W.Frag) : Sp := fun vs H Q _ => ∃ (l : Addr) (as : List Addr) (gs : List G), vs = [.ref l] ∧ SqL K H l (as.map V.ref) ∧ Az H as gs ∧ Asc gs ∧ 1 ≤ gs.length ∧ gs.length ≤ 12 ∧ (∀ g ∈ gs, OkG g) ∧ ∀ (D : Addr) (H' : Hp) (qs : List Addr) (ts : List Thr), H D = none → AL H H' → H' D = some (.lst (qs.map V.ref)) → Paired (fun q (t : Thr) => H' q = some (.tup t.vs)) qs ts → qs.length ≤ 200 → Uj gs ts → Q (.ref D) H'
def Wm1 (l TL : Addr) (gs : List G) (H : Hp) : Nat → St → Hp → Prop := fun i σ H' => ∃ (o2 o3 o4 : Option V) (qs : List Addr) (ts : List Thr), σ = [some (.ref l), some (.ref TL), o2, o3, o4] ∧ AL H H' ∧ TrA H' TL gs (1 + 12 * i) (fun a _ => a < i) qs ts
def Wm2 (l TL ea : Addr) (gs : List G) (H : Hp) (i : Nat) : Nat → St → Hp → Prop := fun j σ H' => ∃ (o4 : Option V) (qs : List Addr) (ts : List Thr), σ = [some (.ref l), some (.ref TL), some (.int (i : Int)), some (.ref ea), o4] ∧ AL H H' ∧ TrA H' TL gs (1 + 12 * i + j) (fun a c => a < i ∨ a = i ∧ c < i + 1 + j) qs ts
theorem Ku (T : Tx K mg) : Ay P w K mg base CX0 8 T.GW T.F5 ["ordered"] (Kr K) := by
 refine T.Cs.F.ok Bj (fun vs H Q E h => ?_) (fun cdv A outer s H vs Q E hr h => ?_)
 ·obtain ⟨l, as, gs, rfl, hl, ga, ha, l1, l12, ok, k⟩ := h
  rfl
 ·obtain ⟨l, as, gs, rfl, hl, ga, ha, l1, l12, ok, k⟩ := h
  have hu := At hr
  refine ⟨_, (AC (AJ (i := 1) Bj.nd rfl (by walk_at "O") (An (AA (AR (Ks T) (hr.mono (by decide)) (by rfl) T.Cw.m T.Cw.F.kp T.Cw.b .nil Ad (AA (JC Jm (pv 0) Ky (Kx AB)) AD)) AD)))
   (AC (BO PassesOwn.never rfl (Qn (by rfl) T.KY (AA (pv 0) AD)) (Fm (n := 2) rfl (Ao (AZ (i := 2) Bj.nd rfl (by walk_at "O")) (Ao (AZ (i := 3) Bj.nd rfl (by walk_at "O")) Cy)))
    (AE (BO PassesOwn.never rfl (Bi (JC Jm (pv 0) (Kx (AF Al (pv 2) AB)) Ky)) (AZ (i := 4) Bj.nd rfl (by walk_at "O"))
      (AE (BX (DN (pv 1) (AR (L0 T) (hr.mono (by decide)) (by rfl) T.DG.m T.DG.F.kp T.DG.b .nil Ad (AA (AG AT (pv 3) AB (fun _ _ => rfl)) (AA (AG AT (pv 3) AB (fun _ _ => rfl)) (AA (AG AT (pv 4) AB (fun _ _ => rfl)) (AA (AG AT (pv 4) AB (fun _ _ => rfl)) AD)))))))))))
   (AE (AI (pv 1))))), ?_⟩
  have la := ga.len
  have h0 : 0 < gs.length := by omega
  walk_at "Q"
  walk_at "RD"
  walk_at "AUTO"
  have he' : H' p = some (.lst ((as.take 1).map V.ref)) := by rw [he, show (1 : Int) = ((1 : Nat) : Int) from rfl, ME, List.map_take]
  have gaT := (ga.same hs).takeG 1
  have lT : (gs.take 1).length ≤ 1 := by rw [List.length_take]; omega
  refine ⟨p, as.take 1, gs.take 1, rfl, SqL.of he', gaT, List.Pairwise.sublist (List.take_sublist _ _) ha, by omega, fun g hg => ok g (List.mem_of_mem_take hg), fun H1 s1 z => absurd (Rk (by omega)) z, fun q0 H1 t0 s1 e1 ot0 al0 => ⟨by decide, fun TL H2 nT s2 eT => ?_⟩⟩
  walk_at "NX"
  have s02 := hs.trans (s1.trans s2)
  have nT0 : H TL = none := (hs.trans s1).free nT
  have one0 : ∃ t ∈ [t0], ∃ g ∈ gs, t.pas g := ⟨t0, by simp, gs[0], List.getElem_mem h0, al0 _ (by
   have := List.take_succ_eq_append_getElem (l := gs) (i := 0) h0
   rw [this]; simp)⟩
  clear he' gaT lT al0 nT he hn
  walk_at "Q"
  refine ⟨_, rfl, l, rfl, ⟨_, s02.seq hl⟩, Oa (xs := as.map V.ref) (Wm1 l TL gs H) ⟨none, none, none, [q0], [t0], rfl, s02, ⟨eT, .cons (s2.get e1) .nil, fun t ht => by rw [List.mem_singleton.mp ht]; exact ot0, one0, by simp, fun _ _ _ _ _ _ _ z => absurd z (by omega)⟩⟩ (fun i σ H3 _ ⟨_, _, _, _, _, _, s3, _⟩ => s3.seq hl) ?_ ?_⟩
  ·rintro i vv σ H3 pp H4 hx ⟨o2, o3, o4, qs, ts, rfl, s3, tr⟩ hn s4 e4
   have hi : i < gs.length := by
    have := (List.getElem?_eq_some_iff.mp hx).1
    rw [List.length_map] at this
    omega
   obtain ⟨ea, fe, ee⟩ := ga.get (List.getElem?_eq_getElem hi)
   have ex : vv = V.ref ea := by
    rw [List.getElem?_map, fe] at hx
    exact (Option.some.inj hx).symm
   subst ex
   have s04 := s3.trans s4
   have gu := List.getElem?_eq_getElem hi
   generalize hu0 : gs[i] = u at ee gu
   have ou := ok u (List.mem_of_getElem? gu)
   delta Js FL Jx
   refine ⟨_, SqT.of e4, rfl, _, _, rfl, _, _, rfl, rfl, ?_⟩
   refine ⟨_, rfl, _, rfl, _, _, rfl, rfl, _, rfl, l, rfl, _, s04.seq hl, fun S H5 nS s5 eS => ?_⟩
   rw [show (i : Int) + 1 = ((i + 1 : Nat) : Int) by omega, NZ, ← List.map_drop] at eS
   have s05 := s04.trans s5
   have trS := (tr.same s4).same s5
   have neS : S ≠ TL := fun z => by
    have := (tr.same s4).eT
    rw [z, this] at nS
    cases nS
   refine ⟨S, rfl, ⟨_, SqL.of eS⟩, EQ (xs := (as.drop (i + 1)).map V.ref) (fun j σ H' => Wm2 l TL ea gs H i j σ H' ∧ H' S = some (.lst ((as.drop (i + 1)).map V.ref))) ⟨⟨o4, qs, ts, rfl, s05, ⟨trS.eT, trS.pr, trS.ok, trS.one, by have := trS.len; omega, fun a c x y h1 h2 h3 h4 => trS.two a c x y h1 h2 h3 (by omega)⟩⟩, eS⟩ (fun j σ H6 _ ⟨_, z⟩ => SqL.of z) ?_ ?_⟩
   ·rintro j vv σ H6 hx ⟨⟨o4, qs, ts, rfl, s6, tr⟩, eS6⟩
    have hj : i + 1 + j < gs.length := by
     have := (List.getElem?_eq_some_iff.mp hx).1
     rw [List.length_map, List.length_drop] at this
     omega
    obtain ⟨la', fl, el⟩ := ga.get (List.getElem?_eq_getElem hj)
    have ex : vv = V.ref la' := by
     rw [List.getElem?_map, List.getElem?_drop, fl] at hx
     exact (Option.some.inj hx).symm
    subst ex
    have gv := List.getElem?_eq_getElem hj
    generalize hv0 : gs[i + 1 + j] = v at el gv
    have ov := ok v (List.mem_of_getElem? gv)
    have eu6 := s6.get ee
    have ev6 := s6.get el
    have luv := F0 ha gu gv (by omega)
    obtain ⟨p1, p2, p3, p4, p5⟩ := id ou
    obtain ⟨q1, q2, q3, q4, q5⟩ := id ov
    delta IH
    refine ⟨⟨_, tr.eT⟩, _, SqT.of eu6, _, rfl, _, SqT.of eu6, _, rfl, _, SqT.of ev6, _, rfl, _, SqT.of ev6, _, rfl, _, rfl, _, rfl, _, rfl, _, rfl, by omega, by omega, by omega, by omega, by omega, fun q H7 x1 y1 z1 v1 s7 e7 Lw1 Lw2 => ?_⟩
    have lo := OR luv Lw1 Lw2
    have ot := RA (by omega) (by omega) (by omega) (by omega) Lw1 Lw2
    have tr7 := tr.same s7
    have ll := tr.len
    have nq : ∀ b xs, H7 b = some (.tup xs) → b ≠ TL := fun b xs e z => by rw [z, tr7.eT] at e; cases e
    refine ⟨_, tr7.eT, by rw [List.length_map, PySem.sizeLine_eq]; omega, ⟨_, qs ++ [q], ts ++ [⟨x1, y1, z1, v1⟩], rfl, (s6.trans s7).updFresh nT0, ⟨by rw [AO, List.map_append]; rfl, ?_, ?_, ?_, ?_, ?_⟩⟩, ?_⟩
    ·exact Paired.snoc (Paired.mapP tr7.pr fun b t e => (AK (nq b _ e)).trans e) ((AK (nq q _ e7)).trans e7)
    ·intro t ht
     rcases List.mem_append.mp ht with z | z
     ·exact tr7.ok t z
     ·rw [List.mem_singleton.mp z]; exact ot
    ·obtain ⟨t, ht, g', hg', pg'⟩ := tr7.one
     exact ⟨t, List.mem_append_left _ ht, g', hg', pg'⟩
    ·rw [List.length_append]
     simp only [List.length_cons, List.length_nil]
     omega
    ·intro a c x y h1 h2 h3 h4
     by_cases hc : a < i ∨ a = i ∧ c < i + 1 + j
     ·obtain ⟨t, ht, ht2⟩ := tr7.two a c x y h1 h2 h3 hc
      exact ⟨t, List.mem_append_left _ ht, ht2⟩
     ·have ea' : a = i := by omega
      have ec' : c = i + 1 + j := by omega
      subst ea' ec'
      rw [gu] at h1
      rw [gv] at h2
      cases h1
      cases h2
      exact ⟨_, List.mem_append_right _ (List.mem_singleton.mpr rfl), lo.1⟩
    ·exact (AK neS).trans (s7.get eS6)
   ·rintro σ H6 ⟨⟨o4, qs, ts, rfl, s6, tr⟩, eS6⟩
    refine ⟨_, _, _, qs, ts, rfl, s6, ⟨tr.eT, tr.pr, tr.ok, tr.one, ?_, fun a c x y h1 h2 h3 h4 => tr.two a c x y h1 h2 h3 ?_⟩⟩
    ·have := tr.len
     rw [List.length_map, List.length_drop] at this
     omega
    ·have : c < gs.length := (List.getElem?_eq_some_iff.mp h2).1
     rw [List.length_map, List.length_drop, la]
     omega
  rintro σ H3 ⟨o2, o3, o4, qs, ts, rfl, s3, tr⟩
  refine hM _ _ ?_
  clear hM M
  walk_at "RD"
  refine k TL H3 qs ts nT0 s3 tr.eT tr.pr ?_ ⟨fun z => ?_, tr.ok, tr.one, fun x hx y hy lt => ?_⟩
  ·have := tr.len
   rw [List.length_map] at this
   omega
  ·obtain ⟨t, ht, _⟩ := tr.one
   rw [z] at ht
   exact absurd ht (by simp)
  ·obtain ⟨a, ea⟩ := List.mem_iff_getElem?.mp hx
   obtain ⟨c, ec⟩ := List.mem_iff_getElem?.mp hy
   have hac := Gz ha ea ec lt
   exact tr.two a c x y ea ec hac (by rw [List.length_map, la]; exact (List.getElem?_eq_some_iff.mp ea).1)
theorem E1 : AY ["gates", "ordered", "tried"] ["gates"] (AH Fq) := by walk_at "SC"
def MP (K : PySem.W.Frag) : Sp := fun vs H Q _ => ∃ (l : Addr) (as : List Addr) (gs : List G), vs = [.ref l] ∧ SqL K H l (as.map V.ref) ∧ Az H as gs ∧ (gs.map G.p).Nodup ∧ 1 ≤ gs.length ∧ gs.length ≤ 12 ∧ (∀ g ∈ gs, OkG g) ∧ LM.Tbl H Cr Dl Kv ∧ ∀ D H' L q t sg, H L = none → Bw Cr H H' → LM.Tbl H' Cr Dl Kv → Ev H' D gs L q t sg → Q (.ref D) H'
theorem MU (T : Tx K mg) : Ay P w K mg base CX0 9 T.Im T.Ex ["gates"] (MP K) := by
 refine LM.Fun.okL T.D7.F T.MZ E1 (fun vs H Q E h => ?_) (fun cdv A outer s H vs Q E la hr h => ?_)
 ·obtain ⟨l, as, gs, rfl, hl, ga, nd, l1, l12, ok, tb, k⟩ := h
  rfl
 ·obtain ⟨l, as, gs, rfl, hl, ga, nd, l1, l12, ok, tb, k⟩ := h
  have hu := At hr
  refine ⟨_, (AC (AJ (i := 1) E1.nd rfl (by walk_at "O") (AM D4 (by rfl) T.EE DI (AA (pv 0) AD)))
   (AC (IR (i := 2) rfl E1.nd rfl (Or.inl rfl) (⟨rfl, by decide +kernel, by decide +kernel, by decide +kernel, rfl, by decide +kernel, by with_unfolding_all rfl, by rfl, by rfl, by rfl⟩ : BU _ _ "throw" ["ordered"] [1]) (Bi (AR (Ku T) (hr.mono (by decide)) (by rfl) T.Cs.m T.Cs.F.kp T.Cs.b .nil Ad (AA (pv 1) AD))) (fun _ _ _ _  => (Av (AA (AR (J5 T) (hr.mono (by decide)) (by rfl) T.CL.m T.CL.F.kp T.CL.b .nil Ad (AA (pv 0) (AA (pv 1) AD))) (AA (pv 0) AD)))) (fun _ _ _ _ => K1))
   (AE (AI (LM.UP (x := "told") (by rfl) T.Pa T.A8 (hr.mono (by decide)) la (by exact ⟨rfl, rfl, fun _ _ _ _ _ _ _ _ => rfl, rfl, rfl, by decide, rfl, rfl, rfl, by decide, fun _ => rfl⟩) (pv 2)))))), ?_⟩
  have la := ga.len
  walk_at "Q"
  walk_at "RD"
  walk_at "AUTO"
  intro S H1 as1 sg nS s1 eS ga1 hp ha
  walk_at "NX"
  have lsg : sg.length = gs.length := hp.length_eq
  have oks : ∀ g ∈ sg, OkG g := fun g hg => ok g (hp.mem_iff.mp hg)
  walk_at "Q"
  refine ⟨_, rfl, S, as1, sg, rfl, SqL.of eS, ga1, ha, by omega, by omega, oks, fun TL H2 qs ts nT s2 eT pr lq tr => ⟨TL, rfl, ⟨_, SqL.of eT⟩, fun D nD => ?_⟩⟩
  refine Rr (as := qs) (bs := ts) (fun H q t => H q = some (.tup t.vs)) (fun _ _ _ _ s e => s.get e)
   (fun H y q t => ∃ p L, y = V.ref p ∧ L ≠ D ∧ H1 L = none ∧ H p = some (.tup [.ref L, .ref q]) ∧ H L = some (.lst ((Aw (sg.filter (XH t.a t.b t.c t.d))).map V.int)) ∧ H q = some (.tup t.vs))
   (fun _ _ _ _ _ s ⟨p, L, e1, e2, e3, e4, e5, e6⟩ => ⟨p, L, e1, e2, e3, s.get e4, s.get e5, s.get e6⟩) ?_ (SqL.of eT) pr nD (by omega) ?_ ?_
  ·rintro H3 v q t xs ys h1 h2 ⟨p, L, e1, e2, e3, e4, e5, e6⟩
   have n1 : p ≠ D := fun z => by rw [z, h1] at e4; cases e4
   have n2 : q ≠ D := fun z => by rw [z, h1] at e6; cases e6
   exact ⟨p, L, e1, e2, e3, (AK n1).trans e4, (AK e2).trans e5, (AK n2).trans e6⟩
  ·intro q t H3 R ht s3 hD eq kR
   have ot := tr.ok t ht
   refine ⟨_, rfl, _, rfl, q, S, t.a, t.b, t.c, t.d, as1, sg, rfl, eq, T9 ot.b0 ot.d0 ot.a1 ot.b1 ot.c1 ot.d1, (s2.trans s3).seq (SqL.of eS), ga1.same (s2.trans s3), by omega, oks, fun L H4 nL s4 eL => ?_⟩
   refine ⟨_, rfl, by show 2 ≤ _; rw [PySem.sizeLine_eq]; decide, fun p H5 nP s5 eP => ?_⟩
   exact kR _ _ (s4.trans s5) ⟨p, L, rfl, fun z => hD (by rw [← z]; exact nL), (s2.trans s3).free nL, eP, s5.get eL, (s4.trans s5).get eq⟩
  ·intro H3 ys s3 eD ly prs
   walk_at "NX"
   have lqt : qs.length = ts.length := Paired.length pr
   have s03 := s1.trans (s2.trans s3)
   have tb3 := ES tb s03
   obtain ⟨pt, ept⟩ := tb3.tab
   have l0 : 0 < ts.length := List.length_pos_iff.mpr tr.ne
   refine ⟨_, rfl, D, ys, (fun i => match ts[i]? with | some t => S2 sg t | none => 0), rfl, SqL.of eD, by omega, tb3, fun i y hy => ?_, fun i y H4 hy best tb4 k4 => ?_⟩
   ·obtain ⟨q, t, h1, h2, p, L, rfl, nLD, nL, e4, e5, e6⟩ := prs i y hy
    refine ⟨p, L, [.ref q], _, rfl, SqT.of e4, SqL.of e5, ?_⟩
    dsimp only
    rw [h2, List.length_map, Aw, List.length_map]
    rfl
   ·obtain ⟨q, t, h1, h2, p, L, rfl, nLD, nL, e4, e5, e6⟩ := prs i y hy
    have n1 : p ≠ Cr := fun z => by rw [z, ept] at e4; cases e4
    have n2 : L ≠ Cr := fun z => by rw [z, ept] at e5; cases e5
    have n3 : q ≠ Cr := fun z => by rw [z, ept] at e6; cases e6
    refine k p H4 L q t sg (s1.free nL) (fun b u n e => k4 b u n (s03.get e)) tb4 ⟨k4 p _ n1 e4, k4 L _ n2 e5, k4 q _ n3 e6, tr.ok t (List.mem_of_getElem? h2), hp, ha, fun u w m hm ps hs hpp => QC tr oks ha (fun t' ht' => ?_) u w m hm ps hs hpp⟩
    obtain ⟨j, ej⟩ := List.mem_iff_getElem?.mp ht'
    have hj := (List.getElem?_eq_some_iff.mp ej).1
    have := (best j (by omega)).1
    dsimp only at this
    rw [ej, h2] at this
    exact this
theorem HZ : AY ["gate", "number"] ["gate"] (AH Fn) := by walk_at "SC"
def Mp {K : PySem.W.Frag} {mg : Str → Option Value} (T : Tx K mg) : Sp := fun vs H Q E => ∃ (q : Addr) (p f h : Int), vs = [.ref q] ∧ H q = some (.tup [.int p, .int f, .int h]) ∧ (∀ e, Dr p f h = some e → E (T.err e) none H) ∧ (Dr p f h = none → Q .non H)
theorem HQ (T : Tx K mg) : Ay P w K mg base (CXE P w) 1 T.JX T.Hw ["gate"] (Mp T) := by
 refine T.Bh.F.okX HZ (fun vs H Q E h => ?_) (fun cdv A outer s H vs Q E hr h => ?_)
 ·obtain ⟨q, p, f, h, rfl, hq, kE, k⟩ := h
  rfl
 ·obtain ⟨q, p, f, h, rfl, hq, kE, k⟩ := h
  have hu := At hr
  refine ⟨_, (AC (Ah (AQ GB (AG AT (pv 0) AB (fun _ _ => rfl)) (AG AT (pv 0) AB (fun _ _ => rfl)) (AS _)) (AE (Cz Jg rfl T.OI (by rfl) T.Jl (AA Af AD)))
    AV)
   (AE (BO ownE rfl (WE (pv 0)) (AZ (i := 1) HZ.nd rfl (by walk_at "O"))
    (AE (Ah (GY (AQ Hz (pv 1) (Ih (v := .int (-1000)) (by rfl) T.T6 T.T4) (AS _)) (Ey (AQ GB (pv 1) (Ih (v := .int (1000)) (by rfl) T.QB T.P4) (AS _)))).pt (AE (Cz Jg rfl T.HV (by rfl) T.FB (AA Af AD)))
      AV))))), ?_⟩
  walk_at "RD"
  walk_at "AUTO"
  unfold Dr at kE k
  by_cases hf : h < f
  ·rw [if_pos (decide_eq_true hf)]
   rw [if_pos hf] at kE
   exact ⟨by decide, kE _ rfl⟩
  rw [if_neg (fun z => hf (of_decide_eq_true z))]
  rw [if_neg hf] at kE k
  refine ⟨_, rfl, q, rfl, ⟨_, SqT.of hq⟩, UG (xs := [V.int p, V.int f, V.int h]) (fun i σ H' => ∃ o, σ = [some (.ref q), o] ∧ H' = H ∧ ∀ x ∈ [p, f, h].take i, InB x) ⟨none, rfl, rfl, fun _ z => absurd z (by simp)⟩ (fun _ _ _ _ ⟨_, _, e, _⟩ => SqT.of (e ▸ hq)) ?_ ?_⟩
  ·rintro i v σ H1 hx ⟨o, rfl, rfl, hi⟩
   have hil : i < [p, f, h].length := (List.getElem?_eq_some_iff.mp hx).1
   have ev : v = V.int [p, f, h][i] := by
    have hx : ([p, f, h].map V.int)[i]? = some v := hx
    rw [List.getElem?_map, List.getElem?_eq_getElem hil] at hx
    exact (Option.some.inj hx).symm
   subst ev
   have hmem := List.getElem_mem hil
   have htk : [p, f, h].take (i + 1) = [p, f, h].take i ++ [[p, f, h][i]] := List.take_succ_eq_append_getElem hil
   generalize [p, f, h][i] = x at *
   walk_at "RD"
   by_cases h1 : x < -1000
   ·rw [if_pos (decide_eq_true h1)]
    rw [if_neg (fun z => by simp at hmem; rcases hmem with rfl | rfl | rfl <;> omega)] at kE
    exact ⟨by decide, kE _ rfl⟩
   rw [if_neg (fun z => h1 (of_decide_eq_true z))]
   by_cases h2 : 1000 < x
   ·rw [if_pos (decide_eq_true h2)]
    rw [if_neg (fun z => by simp at hmem; rcases hmem with rfl | rfl | rfl <;> omega)] at kE
    exact ⟨by decide, kE _ rfl⟩
   rw [if_neg (fun z => h2 (of_decide_eq_true z))]
   refine ⟨⟨_, rfl⟩, fun y hy => ?_⟩
   rw [htk] at hy
   rcases List.mem_append.mp hy with z | z
   ·exact hi y z
   ·rw [List.mem_singleton.mp z]
    exact ⟨by omega, by omega⟩
  ·rintro σ H1 ⟨o, rfl, rfl, hi⟩
   exact k (if_pos ⟨hi p (by simp), hi f (by simp), hi h (by simp)⟩)
theorem Mm : AY ["self"] ["self"] (AH F1) := by walk_at "SC"
def Hj {K : PySem.W.Frag} {mg : Str → Option Value} (T : Tx K mg) : Sp := fun vs H Q _ => ∃ (b dx : Addr), vs = [.ref b] ∧ H b = some (.ins T.AW dx []) ∧ ∀ H' S P, H S = none → H P = none → (∀ a u, a ≠ b → H a = some u → H' a = some u) → Bch T.AW H' b S P [S, P] [] [] → Q .non H'
theorem TV {K : PySem.W.Frag} {mg : Str → Option Value} {T : Tx K mg} {H : Hp} {Q : Addr → Hp → Prop} {E : XK} (k : ∀ b S P H', H b = none → H S = none → H P = none → AL H H' → Bch T.AW H' b S P [S, P] [] [] → Q b H') :
  ∀ x dx, H x = none → H dx = none → dx ≠ x → Hj T [V.ref x] (upd (upd H dx (.own x)) x (.ins T.AW dx [])) (fun v H2 => v = V.non ∧ Q x H2) E := fun x dx nx nd hd => by
 refine ⟨x, dx, rfl, AO, fun H' S P nS nP kp hb => ⟨rfl, k x S P H' nx ?_ ?_ (fun a u e => kp a u (Ap e nx) ?_) hb⟩⟩
 ·have h1 : S ≠ x := fun z => by rw [z, AO] at nS; cases nS
  have h2 : S ≠ dx := fun z => by rw [AK h1, z, AO] at nS; cases nS
  rwa [AK h1, AK h2] at nS
 ·have h1 : P ≠ x := fun z => by rw [z, AO] at nP; cases nP
  have h2 : P ≠ dx := fun z => by rw [AK h1, z, AO] at nP; cases nP
  rwa [AK h1, AK h2] at nP
 ·rw [AK (Ap e nx), AK (Ap e nd)]
  exact e
theorem Mj (T : Tx K mg) : Ay P w K mg base CX0 1 T.Fy T.HI ["self"] (Hj T) := by
 refine T.JL.F.ok Mm (fun vs H Q E h => ?_) (fun cdv A outer s H vs Q E hr h => ?_)
 ·obtain ⟨b, dx, rfl, hb, k⟩ := h
  rfl
 ·obtain ⟨b, dx, rfl, hb, k⟩ := h
  have hu := At hr
  refine ⟨_, (AC (LP (pv 0) (An AD) rfl)
   (AE (LP (pv 0) (An AD) rfl))), ?_⟩
  walk_at "RD"
  refine ⟨by decide, fun S H1 nS s1 eS => ⟨_, dx, _, s1.get hb, T.Ag, T.Aq, by decide, by decide, fun P H2 nP s2 eP => ?_⟩⟩
  have sb : S ≠ b := Ap hb nS |>.symm
  refine ⟨_, dx, _, s2.get AO, T.Ag, T.BH, (by show 1 < 1000; decide), ?_⟩
  have nP1 : H1 P = none := by
   have hPb : P ≠ b := fun z => by rw [z, AO] at nP; cases nP
   rw [AK hPb] at nP
   exact nP
  have eS2 : H2 S = some (.lst []) := s2.get ((AK sb).trans eS)
  have pb : P ≠ b := (Ap (s1.get hb) nP1).symm
  have ps : P ≠ S := (Ap eS nP1).symm
  refine k _ S P nS (s1.free nP1) (fun a u ha e => ?_) ?_
  ·rw [AK ha]
   exact s2.get ((AK ha).trans (s1.get e))
  ·refine ⟨⟨dx, AO⟩, ⟨[], (AK sb).trans eS2, .nil⟩, ⟨[], (AK pb).trans eP, .nil, fun _ h => absurd h (by simp)⟩, ps.symm, by simp, by simp, ⟨List.Pairwise.nil, fun _ h => absurd h (by simp), by decide⟩, fun _ h => absurd h (by simp), by decide, fun a ha => ?_⟩
   simp at ha
   rcases ha with rfl | rfl
   ·exact ⟨_, (AK sb).trans eS2⟩
   ·exact ⟨_, (AK pb).trans eP⟩
theorem JJ : AY ["self", "place"] ["self", "place"] (AH DF) := by walk_at "SC"
def I0 {K : PySem.W.Frag} {mg : Str → Option Value} (T : Tx K mg) : Sp := fun vs H Q E => ∃ (b S P : Addr) (ow : List Addr) (gs : List G) (past : List (List G)) (p : Int), vs = [.ref b, .int p] ∧ Bch T.AW H b S P ow gs past ∧ ∀ H', AL H H' → Q (.bl (decide (p ∈ Aw gs))) H'
theorem Ii (T : Tx K mg) : Ay P w K mg base CX0 1 T.FS T.Eg ["self", "place"] (I0 T) := by
 refine T.DE.F.ok JJ (fun vs H Q E h => ?_) (fun cdv A outer s H vs Q E hr h => ?_)
 ·obtain ⟨b, S, P, ow, gs, past, p, rfl, hb, k⟩ := h
  rfl
 ·obtain ⟨b, S, P, ow, gs, past, p, rfl, hb, k⟩ := h
  have hu := At hr
  refine ⟨_, (AE (AI (BY G4 (pv 1) (JK rfl (⟨rfl, by decide +kernel, by decide +kernel, by decide +kernel, rfl, by decide +kernel, by with_unfolding_all rfl, by rfl, by rfl, by rfl⟩ : BU _ _ "gate" [] []) (Bi (CB (pv 0) rfl)) (fun _ _ _ _  => (AG (Fb (K := K) rfl) (pv 0) AB (fun _ _ => rfl))) (fun _ _ _ _ => K1)) (by with_unfolding_all rfl)))), ?_⟩
  obtain ⟨dx, eb⟩ := hb.at_
  obtain ⟨as, es, ga⟩ := hb.st
  delta JV
  refine ⟨_, dx, _, eb, T.Ag, T.Aq, _, rfl, ?_⟩
  refine ⟨_, rfl, ⟨_, SqL.of es⟩, fun D nD => ?_⟩
  refine GE (fun _ => true) (fun g => V.int g.p) (SqL.of es) ga nD (by have := hb.std.len; omega) (fun v g H R hg s1 ev hR => ?_) (fun v g H R hg s1 ev hR => ?_) fun H1 s1 e1 => ?_
  ·exact hR
  ·delta Option.join_some
   exact ⟨_, SqT.of ev, _, rfl, hR⟩
  ·rw [SG, show (gs.map fun g => V.int g.p) = (Aw gs).map V.int from by rw [List.map_map]; rfl] at e1
   refine ⟨_, .inl (SqL.of e1), rfl, TZ _, ?_⟩
   rw [Qq]
   exact k _ s1
theorem FV : AY ["self", "place", "gate"] ["self", "place"] (AH Dm) := by walk_at "SC"
def KJ {K : PySem.W.Frag} {mg : Str → Option Value} (T : Tx K mg) : Sp := fun vs H Q E => ∃ (b S P : Addr) (ow : List Addr) (gs : List G) (past : List (List G)) (p : Int), vs = [.ref b, .int p] ∧ Bch T.AW H b S P ow gs past ∧ (p ∉ Aw gs → E (T.err .nogate) none H) ∧ ∀ D g, A9 gs p = some g → H D = some (.tup (G.vs g)) → Q (.ref D) H
theorem FU (T : Tx K mg) : Ay P w K mg base (CXE P w) 1 T.GJ T.FO ["self", "place"] (KJ T) := by
 refine T.Bk.F.okX FV (fun vs H Q E h => ?_) (fun cdv A outer s H vs Q E hr h => ?_)
 ·obtain ⟨b, S, P, ow, gs, past, p, rfl, hb, kE, k⟩ := h
  rfl
 ·obtain ⟨b, S, P, ow, gs, past, p, rfl, hb, kE, k⟩ := h
  have hu := At hr
  refine ⟨_, (AC (BO ownE rfl (Bi (CB (pv 0) rfl)) (AZ (i := 2) FV.nd rfl (by walk_at "O"))
    (AE (Ah (AQ A5 (AG AT (pv 2) AB (fun _ _ => rfl)) (pv 1) (AS _)) (AE (AI (pv 2)))
      AV)))
   (AE (Cz Jg rfl T.Sv (by rfl) T.PH (AA Af AD)))), ?_⟩
  obtain ⟨dx, eb⟩ := hb.at_
  obtain ⟨as, es, ga⟩ := hb.st
  have las := ga.len
  delta JV
  refine ⟨_, rfl, b, T.AW, dx, _, _, rfl, eb, T.Ag, T.Aq, rfl, S, rfl, ⟨_, SqL.of es⟩, EQ (xs := as.map V.ref) (fun i σ H' => ∃ o, σ = [some (.ref b), some (.int p), o] ∧ H' = H ∧ ∀ g ∈ gs.take i, g.p ≠ p) ⟨none, rfl, rfl, fun _ z => absurd z (by simp)⟩ (fun _ _ _ _ ⟨_, _, e, _⟩ => SqL.of (e ▸ es)) ?_ ?_⟩
  ·rintro i v σ H1 hx ⟨o, rfl, rfl, hn⟩
   have hi : i < gs.length := by
    have := (List.getElem?_eq_some_iff.mp hx).1
    rw [List.length_map] at this
    omega
   obtain ⟨a, ha, ea⟩ := ga.get (List.getElem?_eq_getElem hi)
   have ex : v = V.ref a := by
    rw [List.getElem?_map, ha] at hx
    exact (Option.some.inj hx).symm
   subst ex
   have hm := List.getElem_mem hi
   have htk : gs.take (i + 1) = gs.take i ++ [gs[i]] := List.take_succ_eq_append_getElem hi
   generalize gs[i] = g at *
   walk_at "RD"
   refine ⟨_, SqT.of ea, _, rfl, rfl, ?_⟩
   by_cases hp : g.p = p
   ·rw [if_pos (decide_eq_true (by rw [hp]))]
    exact k a g (hp ▸ Nc hb.std.asc hm) ea
   ·rw [if_neg (fun z => hp (V.int.inj (of_decide_eq_true z)))]
    refine ⟨⟨_, rfl⟩, fun y hy => ?_⟩
    rw [htk] at hy
    rcases List.mem_append.mp hy with z | z
    ·exact hn y z
    ·rw [List.mem_singleton.mp z]
     exact hp
  ·rintro σ H1 ⟨o, rfl, rfl, hn⟩
   walk_at "RD"
   refine ⟨by decide, kE fun z => ?_⟩
   obtain ⟨g, hg, e⟩ := List.mem_map.mp z
   exact hn g (by rw [List.length_map, las, List.take_length]; exact hg) e
theorem FP : AY ["self", "place", "instead", "others"] ["self", "place", "instead"] (AH Dj) := by walk_at "SC"
def Jt {K : PySem.W.Frag} {mg : Str → Option Value} (T : Tx K mg) : Sp := fun vs H Q E => ∃ (b S P : Addr) (ow : List Addr) (gs : List G) (past : List (List G)) (p : Int) (l : Addr) (ls : List Addr) (o : List G), vs = [.ref b, .int p, .ref l] ∧ Bch T.AW H b S P ow gs past ∧ l ∉ ow ∧ H l = some (.lst (ls.map V.ref)) ∧ Az H ls o ∧ (∀ g ∈ o, g.p = p) ∧ Std (Dd gs p o) ∧ (300 ≤ past.length → E (T.err .deeds) none H) ∧ (past.length < 300 → ∀ H' S' ow' (D : Addr), Kp b P H H' → Bch T.AW H' b S' P ow' (Dd gs p o) (past ++ [gs]) → (∀ a ∈ ow', a ∈ ow ∨ H a = none) → Q .non H')
theorem DH (T : Tx K mg) : Ay P w K mg base (CXE P w) 1 T.GF T.FI ["self", "place", "instead"] (Jt T) := by
 refine T.BF.F.okX FP (fun vs H Q E h => ?_) (fun cdv A outer s H vs Q E hr h => ?_)
 ·obtain ⟨b, S, P, ow, gs, past, p, l, ls, o, rfl, hb, hlo, el, go, hop, std, kE, k⟩ := h
  rfl
 ·obtain ⟨b, S, P, ow, gs, past, p, l, ls, o, rfl, hb, hlo, el, go, hop, std, kE, k⟩ := h
  have hu := At hr
  refine ⟨_, (AC (Ah (AQ Qo (AM AU (by rfl) T.A8 Ax (AA (CB (pv 0) rfl) AD)) (Ih (v := .int (300)) (by rfl) T.Nx T.N4) (AS _)) (AE (Cz Jg rfl T.O7 (by rfl) T.Kg (AA Af AD)))
    AV)
   (AC (IR (i := 3) rfl FP.nd rfl (Or.inl rfl) (⟨rfl, by decide +kernel, by decide +kernel, by decide +kernel, rfl, by decide +kernel, by with_unfolding_all rfl, by rfl, by rfl, by rfl⟩ : BU _ _ "gate" ["place"] [1]) (Bi (CB (pv 0) rfl)) (fun _ _ _ _  => (pv 0)) (fun _ _ _ _ => (K0 (AQ EY (AG (Fb (K := K) rfl) (pv 0) AB (fun _ _ => rfl)) (pv 1) (AS _)))))
   (AC (BX (DN (CB (pv 0) rfl) (CB (pv 0) rfl)))
   (AE (LP (pv 0) (AM D4 (by rfl) T.EE DI (AA (AF OM (pv 3) (pv 2)) AD)) rfl))))), ?_⟩
  obtain ⟨dx, eb⟩ := hb.at_
  obtain ⟨as, es, ga⟩ := hb.st
  obtain ⟨ps, ep, pr, hps⟩ := hb.pa
  have lp := Paired.length pr
  walk_at "Q"
  walk_at "RD"
  refine ⟨_, dx, _, eb, T.Ag, T.BH, _, rfl, ?_⟩
  refine ⟨_, rfl, _, .inl (SqL.of ep), ?_⟩
  rw [List.length_map, lp]
  by_cases h3 : 300 ≤ past.length
  ·rw [if_pos (decide_eq_true (by omega))]
   exact ⟨by decide, kE h3⟩
  ·rw [if_neg (fun z => h3 (by have := of_decide_eq_true z; omega))]
   walk_at "NX"
   walk_at "Q"
   delta JV
   refine ⟨_, dx, _, eb, T.Ag, T.Aq, _, rfl, _, rfl, ⟨_, SqL.of es⟩, fun D nD => ?_⟩
   refine On (fun g => !decide (g.p = p)) (SqL.of es) ga nD (by have := hb.std.len; omega) (fun v g H1 R hg s1 ev hR => ?_) fun H1 as1 s1 e1 ga1 => ?_
   ·delta Option.join_some
    refine ⟨_, SqT.of ev, _, rfl, rfl, ?_⟩
    rw [show decide (V.int g.p = V.int p) = decide (g.p = p) from decide_eq_decide.mpr ⟨fun z => V.int.inj z, fun z => by rw [z]⟩]
    exact hR
   ·have eb1 := s1.get eb
    have ep1 := s1.get ep
    walk_at "NX"
    walk_at "Q"
    walk_at "RD"
    refine ⟨_, dx, _, eb1, T.Ag, T.BH, _, rfl, _, rfl, ⟨_, ep1⟩, _, dx, _, eb1, T.Ag, T.Aq, _, rfl, _, ep1, by rw [List.length_map, lp, PySem.sizeLine_eq]; omega, ?_⟩
    walk_at "NX"
    walk_at "RD"
    have bP : b ≠ P := Bv eb ep (by simp)
    have lP : l ≠ P := fun z => hlo (by rw [z]; exact hb.po)
    have DP : D ≠ P := (Ap ep nD).symm
    have el1 : upd H1 P (.lst (ps.map V.ref ++ [V.ref S])) l = some (.lst (ls.map V.ref)) := (AK lP).trans (s1.get el)
    have e1' : upd H1 P (.lst (ps.map V.ref ++ [V.ref S])) D = some (.lst (as1.map V.ref)) := (AK DP).trans e1
    have lo := Az.len go
    have l1 := Az.len ga1
    have lf := List.length_filter_le (fun g : G => !decide (g.p = p)) gs
    have l40 := hb.std.len
    have lpo := K6 (gs := gs) (p := p) (o := o)
    have l40' := std.len
    refine ⟨_, e1', _, el1, by rw [List.length_map, List.length_map, PySem.sizeLine_eq]; omega, fun M H2 n2 s2 e2 => ?_⟩
    have kt : ∀ a xs, H a = some (.tup xs) → H2 a = some (.tup xs) := fun a xs e => s2.get ((AK (hb.nep e fun _ z => by cases z)).trans (s1.get e))
    have kt1 : ∀ a xs, H1 a = some (.tup xs) → H2 a = some (.tup xs) := fun a xs e => s2.get ((AK (Bv e ep1 (fun z => by cases z))).trans e)
    have ga2 : Az H2 (as1 ++ ls) ((gs.filter fun g => !decide (g.p = p)) ++ o) := Az.append (ga1.keep kt1) (go.keep kt)
    refine ⟨as1 ++ ls, by rw [List.map_append]; exact SqL.of e2, _, ga2, ?_, by rw [List.length_append]; omega, fun S' H3 as3 gs3 n3 s3 e3 ga3 pm ac => ?_⟩
    ·exact ((FW (gs := gs) (p := p) (o := o)).map G.p).nodup_iff.mp std.nd
    have eg : gs3 = Dd gs p o := Eh ac std.asc (pm.trans FW.symm)
    subst eg
    have eP3 : H3 P = some (.lst ((ps ++ [S]).map V.ref)) := by rw [List.map_append]; exact s3.get (s2.get AO)
    have eb3 : H3 b = some (.ins T.AW dx [("standing", .ref S), ("past", .ref P)]) := s3.get (s2.get ((AK bP).trans eb1))
    have kp3 : Kp b P H H3 := fun a u h1 h2 e => s3.get (s2.get ((AK h2).trans (s1.get e)))
    have fr : ∀ a, H3 a = none → H a = none := fun a e => by
     cases q : H a with
     | none => rfl
     | some u =>
      by_cases hb' : a = b
      ·rw [hb', eb3] at e; cases e
      ·by_cases hP : a = P
       ·rw [hP, eP3] at e; cases e
       ·rw [kp3 a u hb' hP q] at e; cases e
    have n3H : H S' = none := by
     cases q : H S' with
     | none => rfl
     | some u =>
      by_cases hb' : S' = b
      ·rw [hb', s2.get ((AK bP).trans eb1)] at n3; cases n3
      ·by_cases hP : S' = P
       ·rw [hP, s2.get AO] at n3; cases n3
       ·rw [s2.get ((AK hP).trans (s1.get q))] at n3; cases n3
    have Sb : S' ≠ b := (Ap eb n3H).symm
    have SP' : S' ≠ P := (Ap ep n3H).symm
    have kt3 : ∀ a xs, H a = some (.tup xs) → H3 a = some (.tup xs) := fun a xs e => s3.get (kt a xs e)
    have kb : ∀ a xs, H3 a = some (.tup xs) → upd H3 b (.ins T.AW dx [("standing", .ref S'), ("past", .ref P)]) a = some (.tup xs) := fun a xs e => (AK (Bv e eb3 (fun z => by cases z))).trans e
    refine ⟨_, dx, _, eb3, T.Ag, T.Aq, by show 2 < 1000; decide, k (by omega) _ S' (S' :: S :: ow) S' (kp3.upd (.inl rfl)) ?_ fun a ha => ?_⟩
    ·refine ⟨⟨dx, AO⟩, ⟨as3, (AK Sb).trans e3, ga3.keep kb⟩, ⟨ps ++ [S], (AK bP.symm).trans eP3, Paired.snoc (Paired.keepM pr fun x y hx q => ?_) ?_, fun a ha => ?_⟩, SP', by simp, by simp [hb.po], std, fun x hx => ?_, by rw [List.length_append]; simp only [List.length_singleton]; omega, fun a ha => ?_⟩
     ·have hxo := hps x hx
      obtain ⟨_, ex⟩ := hb.lv x hxo.1
      have hxb : x ≠ b := hb.neb ex fun _ _ _ z => by cases z
      exact q.keep (fun u e => (AK hxb).trans (kp3 x u hxb hxo.2 e)) fun a xs e => kb a xs (kt3 a xs e)
     ·have hSb : S ≠ b := hb.neb es fun _ _ _ z => by cases z
      exact hb.st.keep (fun u e => (AK hSb).trans (kp3 S u hSb hb.sp e)) fun a xs e => kb a xs (kt3 a xs e)
     ·rcases List.mem_append.mp ha with z | z
      ·exact ⟨by simp [(hps a z).1], (hps a z).2⟩
      ·rw [List.mem_singleton.mp z]; exact ⟨by simp, hb.sp⟩
     ·rcases List.mem_append.mp hx with z | z
      ·exact hb.stds x z
      ·rw [List.mem_singleton.mp z]; exact hb.std
     ·have hown : ∀ a ∈ ow, ∃ xs, upd H3 b (.ins T.AW dx [("standing", .ref S'), ("past", .ref P)]) a = some (.lst xs) := fun a ha => by
       obtain ⟨xs, ex⟩ := hb.lv a ha
       have hxb : a ≠ b := hb.neb ex fun _ _ _ z => by cases z
       by_cases hP : a = P
       ·rw [hP]; exact ⟨_, (AK bP.symm).trans eP3⟩
       ·exact ⟨xs, (AK hxb).trans (kp3 a _ hxb hP ex)⟩
      rcases List.mem_cons.mp ha with z | z
      ·rw [z]; exact ⟨_, (AK Sb).trans e3⟩
      ·rcases List.mem_cons.mp z with z | z
       ·rw [z]; exact hown S hb.so
       ·exact hown a z
    ·rcases List.mem_cons.mp ha with z | z
     ·rw [z]; exact .inr n3H
     ·rcases List.mem_cons.mp z with z | z
      ·rw [z]; exact .inl hb.so
      ·exact .inl z
theorem Iw : AY ["self", "place", "foot", "head", "gate"] ["self", "place", "foot", "head"] (AH Gj) := by walk_at "SC"
def N5 {K : PySem.W.Frag} {mg : Str → Option Value} (T : Tx K mg) : Sp := fun vs H Q E => ∃ (b S P : Addr) (ow : List Addr) (gs : List G) (past : List (List G)) (p f h : Int), vs = [.ref b, .int p, .int f, .int h] ∧ Bch T.AW H b S P ow gs past ∧ (∀ e, IM gs past p f h = some e → ∀ H', AL H H' → E (T.err e) none H') ∧ (IM gs past p f h = none → ∀ H' S' ow' (D : Addr), Kp b P H H' → Bch T.AW H' b S' P ow' (Dd gs p [⟨p, f, h⟩]) (past ++ [gs]) → (∀ a ∈ ow', a ∈ ow ∨ H a = none) → H' D = some (.tup [.int p, .int f, .int h]) → Q (.ref D) H')
theorem OF (T : Tx K mg) : Ay P w K mg base (CXE P w) 2 T.Kf T.Jf ["self", "place", "foot", "head"] (N5 T) := by
 refine T.Gc.F.okX Iw (fun vs H Q E h => ?_) (fun cdv A outer s H vs Q E hr h => ?_)
 ·obtain ⟨b, S, P, ow, gs, past, p, f, h', rfl, hb, kE, k⟩ := h
  rfl
 ·obtain ⟨b, S, P, ow, gs, past, p, f, h', rfl, hb, kE, k⟩ := h
  have hu := At hr
  refine ⟨_, (AC (Ah (Bc (Fe (pv 0) T.Ag T.DE.mt (Ii T) (hr.mono (by decide)) T.DE.b .nil Ad (AA (pv 1) AD))) (AE (Cz Jg rfl T.UU (by rfl) T.Qj (AA Af AD)))
    AV)
   (AC (AJ (i := 4) Iw.nd rfl (by walk_at "O") (Av (AA (pv 1) (AA (pv 2) (AA (pv 3) AD)))))
   (AC (BX (AR (HQ T) (hr.mono (by decide)) (by rfl) T.Bh.m T.Bh.F.kp T.Bh.b .nil Ki (AA (pv 4) AD)))
   (AC (Ah (AQ Qo (AM AU (by rfl) T.A8 Ax (AA (CB (pv 0) rfl) AD)) (Ih (v := .int (40)) (by rfl) T.N6 T.OK) (AS _)) (AE (Cz Jg rfl T.PX (by rfl) T.Km (AA Af AD)))
    AV)
   (AC (BX (Fe (pv 0) T.Ag T.BF.mt (DH T) (hr.mono (by decide)) T.BF.b .nil Ki (AA (pv 1) (AA (An (AA (pv 4) AD)) AD))))
   (AE (AI (pv 4)))))))), ?_⟩
  obtain ⟨dx, eb⟩ := hb.at_
  obtain ⟨as, es, ga⟩ := hb.st
  have las := ga.len
  walk_at "Q"
  walk_at "RD"
  refine ⟨_, _, eb, rfl, b, S, P, ow, gs, past, p, rfl, hb, fun H1 s1 => ?_⟩
  have hb1 := hb.same s1
  by_cases hp : p ∈ Aw gs
  ·refine ⟨_, rfl, ?_⟩
   rw [if_pos (decide_eq_true hp)]
   exact ⟨by decide, kE .taken (by unfold IM; rw [if_pos hp]) _ s1⟩
  refine ⟨_, rfl, ?_⟩
  rw [if_neg (fun z => hp (of_decide_eq_true z))]
  walk_at "NX"
  walk_at "Q"
  walk_at "RD"
  refine ⟨by decide, fun q H2 n2 s2 e2 => ?_⟩
  walk_at "NX"
  walk_at "Q"
  walk_at "RD"
  refine ⟨q, p, f, h', rfl, e2, fun e he => kE e (by unfold IM; rw [if_neg hp, he]; rfl) _ (s1.trans s2), fun hok => ?_⟩
  have hb2 := hb1.same s2
  obtain ⟨dx, eb⟩ := hb2.at_
  obtain ⟨as, es, ga⟩ := hb2.st
  have las := ga.len
  walk_at "NX"
  walk_at "Q"
  walk_at "RD"
  refine ⟨_, dx, _, eb, T.Ag, T.Aq, _, rfl, _, rfl, _, .inl (SqL.of es), ?_⟩
  rw [List.length_map, las]
  by_cases h4 : 40 ≤ gs.length
  ·rw [if_pos (decide_eq_true (by omega))]
   exact ⟨by decide, kE .full (by unfold IM; rw [if_neg hp, hok, if_pos h4]; rfl) _ (s1.trans s2)⟩
  rw [if_neg (fun z => h4 (by have := of_decide_eq_true z; omega))]
  walk_at "NX"
  walk_at "RD"
  refine ⟨dx, _, eb, rfl, by decide, fun l H3 n3 s3 e3 => ?_⟩
  have hb3 := hb2.same s3
  have ok := Fh.mp hok
  refine ⟨b, S, P, ow, gs, past, p, l, [q], [⟨p, f, h'⟩], rfl, hb3, fun z => ?_, e3, .cons (s3.get e2) .nil, fun g hg => by rw [List.mem_singleton.mp hg], hb.std.put ok (by rw [PM hp]; omega), fun h3 => kE .deeds (by unfold IM; rw [if_neg hp, hok, if_neg h4, if_pos h3]; rfl) _ (s1.trans (s2.trans s3)), fun h3 H4 S' ow' _ k4 b4 o4 => ?_⟩
  ·exact hb2.off n3 z
  ·refine k (by unfold IM; rw [if_neg hp, hok, if_neg h4, if_neg (by omega)]; rfl) H4 S' ow' q ((Kp.of (s1.trans (s2.trans s3))).trans k4) b4 (fun a ha => ?_) (hb3.tup k4 (s3.get e2))
   exact (o4 a ha).imp id fun z => (s1.trans (s2.trans s3)).free z
theorem Hk : AY ["self", "place", "gate"] ["self", "place"] (AH F2) := by walk_at "SC"
def Mf {K : PySem.W.Frag} {mg : Str → Option Value} (T : Tx K mg) : Sp := fun vs H Q E => ∃ (b S P : Addr) (ow : List Addr) (gs : List G) (past : List (List G)) (p : Int), vs = [.ref b, .int p] ∧ Bch T.AW H b S P ow gs past ∧ (∀ e, GG gs past p = some e → ∀ H', AL H H' → E (T.err e) none H') ∧ (∀ g, A9 gs p = some g → GG gs past p = none → ∀ H' S' ow' (D : Addr), Kp b P H H' → Bch T.AW H' b S' P ow' (Dd gs p []) (past ++ [gs]) → (∀ a ∈ ow', a ∈ ow ∨ H a = none) → H' D = some (.tup (G.vs g)) → Q (.ref D) H')
theorem Mh (T : Tx K mg) : Ay P w K mg base (CXE P w) 2 T.JB T.HJ ["self", "place"] (Mf T) := by
 refine T.Fs.F.okX Hk (fun vs H Q E h => ?_) (fun cdv A outer s H vs Q E hr h => ?_)
 ·obtain ⟨b, S, P, ow, gs, past, p, rfl, hb, kE, k⟩ := h
  rfl
 ·obtain ⟨b, S, P, ow, gs, past, p, rfl, hb, kE, k⟩ := h
  have hu := At hr
  refine ⟨_, (AC (AJ (i := 2) Hk.nd rfl (by walk_at "O") (Fe (pv 0) T.Ag T.Bk.mt (FU T) (hr.mono (by decide)) T.Bk.b .nil Ki (AA (pv 1) AD)))
   (AC (BX (Fe (pv 0) T.Ag T.BF.mt (DH T) (hr.mono (by decide)) T.BF.b .nil Ki (AA (pv 1) (AA (An AD) AD))))
   (AE (AI (pv 2))))), ?_⟩
  obtain ⟨dx, eb⟩ := hb.at_
  walk_at "RD"
  refine ⟨dx, _, eb, rfl, b, S, P, ow, gs, past, p, rfl, hb, fun hp => kE .nogate (by unfold GG; rw [if_neg hp]) _ (AL.refl _), fun D g hg eD => ?_⟩
  obtain ⟨hgm, hgp⟩ := Ce hg
  have hp : p ∈ Aw gs := List.mem_map.mpr ⟨g, hgm, hgp⟩
  refine ⟨dx, _, eb, rfl, by decide, fun l H1 n1 s1 e1 => ?_⟩
  have hb1 := hb.same s1
  refine ⟨b, S, P, ow, gs, past, p, l, [], [], rfl, hb1, hb.off n1, e1, .nil, fun g hg => absurd hg (by simp), hb.std.take, fun h3 => kE .deeds (by unfold GG Df; rw [if_pos hp, if_pos h3]) _ s1, fun h3 H4 S' ow' _ k4 b4 o4 => ?_⟩
  exact k g hg (by unfold GG Df; rw [if_pos hp, if_neg (by omega)]) H4 S' ow' D ((Kp.of s1).trans k4) b4 (fun a ha => (o4 a ha).imp id s1.free) (hb1.tup k4 (s1.get eD))
theorem E9 : AY ["self", "place", "foot_by", "head_by", "before", "gate"] ["self", "place", "foot_by", "head_by"] (AH Fv) := by walk_at "SC"
def Mr {K : PySem.W.Frag} {mg : Str → Option Value} (T : Tx K mg) : Sp := fun vs H Q E => ∃ (b S P : Addr) (ow : List Addr) (gs : List G) (past : List (List G)) (p x y : Int), vs = [.ref b, .int p, .int x, .int y] ∧ Bch T.AW H b S P ow gs past ∧ (∀ e, Dx gs past p x y = some e → ∀ H', AL H H' → E (T.err e) none H') ∧ (∀ g, A9 gs p = some g → Dx gs past p x y = none → ∀ H' S' ow' (D : Addr), Kp b P H H' → Bch T.AW H' b S' P ow' (Dd gs p [⟨p, g.f + x, g.h + y⟩]) (past ++ [gs]) → (∀ a ∈ ow', a ∈ ow ∨ H a = none) → H' D = some (.tup [.int p, .int (g.f + x), .int (g.h + y)]) → Q (.ref D) H')
theorem Hu (T : Tx K mg) : Ay P w K mg base (CXE P w) 2 T.JZ T.HL ["self", "place", "foot_by", "head_by"] (Mr T) := by
 refine T.Ct.F.okX E9 (fun vs H Q E h => ?_) (fun cdv A outer s H vs Q E hr h => ?_)
 ·obtain ⟨b, S, P, ow, gs, past, p, x, y, rfl, hb, kE, k⟩ := h
  rfl
 ·obtain ⟨b, S, P, ow, gs, past, p, x, y, rfl, hb, kE, k⟩ := h
  have hu := At hr
  refine ⟨_, (AC (AJ (i := 4) E9.nd rfl (by walk_at "O") (Fe (pv 0) T.Ag T.Bk.mt (FU T) (hr.mono (by decide)) T.Bk.b .nil Ki (AA (pv 1) AD)))
   (AC (AJ (i := 5) E9.nd rfl (by walk_at "O") (Av (AA (AG AT (pv 4) AB (fun _ _ => rfl)) (AA (AF Al (AG AT (pv 4) AB (fun _ _ => rfl)) (pv 2)) (AA (AF Al (AG AT (pv 4) AB (fun _ _ => rfl)) (pv 3)) AD)))))
   (AC (BX (AR (HQ T) (hr.mono (by decide)) (by rfl) T.Bh.m T.Bh.F.kp T.Bh.b .nil Ki (AA (pv 5) AD)))
   (AC (BX (Fe (pv 0) T.Ag T.BF.mt (DH T) (hr.mono (by decide)) T.BF.b .nil Ki (AA (pv 1) (AA (An (AA (pv 5) AD)) AD))))
   (AE (AI (pv 5))))))), ?_⟩
  obtain ⟨dx, eb⟩ := hb.at_
  walk_at "Q"
  walk_at "RD"
  refine ⟨dx, _, eb, rfl, b, S, P, ow, gs, past, p, rfl, hb, fun hp => kE .nogate (by unfold Dx; rw [DX.mpr hp]) _ (AL.refl _), fun D g hg eD => ?_⟩
  obtain ⟨hgm, hgp⟩ := Ce hg
  have le : Dx gs past p x y = (Dr p (g.f + x) (g.h + y)).or (Df past) := by unfold Dx; rw [hg]
  walk_at "NX"
  walk_at "Q"
  walk_at "RD"
  refine ⟨_, SqT.of eD, _, rfl, _, SqT.of eD, _, rfl, _, rfl, _, SqT.of eD, _, rfl, _, rfl, by decide, fun q H1 n1 s1 e1 => ?_⟩
  rw [hgp] at e1
  walk_at "NX"
  walk_at "Q"
  walk_at "RD"
  refine ⟨q, p, g.f + x, g.h + y, rfl, e1, fun e he => kE e (by rw [le, he]; rfl) _ s1, fun hok => ?_⟩
  have hb1 := hb.same s1
  obtain ⟨dx, eb⟩ := hb1.at_
  walk_at "NX"
  walk_at "RD"
  refine ⟨dx, _, eb, rfl, by decide, fun l H2 n2 s2 e2 => ?_⟩
  have hb2 := hb1.same s2
  refine ⟨b, S, P, ow, gs, past, p, l, [q], [⟨p, g.f + x, g.h + y⟩], rfl, hb2, hb1.off n2, e2, .cons (s2.get e1) .nil, fun g hg => by rw [List.mem_singleton.mp hg], hb.std.put (Fh.mp hok) (by rw [← hgp]; exact Nat.lt_of_lt_of_le (XR hgm) hb.std.len), fun h3 => kE .deeds (by rw [le, hok]; unfold Df; rw [if_pos h3]; rfl) _ (s1.trans s2), fun h3 H4 S' ow' _ k4 b4 o4 => ?_⟩
  exact k g hg (by rw [le, hok]; unfold Df; rw [if_neg (by omega)]; rfl) H4 S' ow' q ((Kp.of (s1.trans s2)).trans k4) b4 (fun a ha => (o4 a ha).imp id (s1.trans s2).free) (hb2.tup k4 (s2.get e1))
theorem MG : AY ["self", "place", "foot_by", "head_by"] ["self", "place", "foot_by", "head_by"] (AH Fw) := by walk_at "SC"
def MI {K : PySem.W.Frag} {mg : Str → Option Value} (T : Tx K mg) : Sp := fun vs H Q E => ∃ (b S P : Addr) (ow : List Addr) (gs : List G) (past : List (List G)) (p x y : Int), vs = [.ref b, .int p, .int x, .int y] ∧ Bch T.AW H b S P ow gs past ∧ (∀ e, Dx gs past p (-x) (-y) = some e → ∀ H', AL H H' → E (T.err e) none H') ∧ (∀ g, A9 gs p = some g → Dx gs past p (-x) (-y) = none → ∀ H' S' ow' (D : Addr), Kp b P H H' → Bch T.AW H' b S' P ow' (Dd gs p [⟨p, g.f + (-x), g.h + (-y)⟩]) (past ++ [gs]) → (∀ a ∈ ow', a ∈ ow ∨ H a = none) → H' D = some (.tup [.int p, .int (g.f + (-x)), .int (g.h + (-y))]) → Q (.ref D) H')
theorem MS (T : Tx K mg) : Ay P w K mg base (CXE P w) 3 T.Ji T.HW ["self", "place", "foot_by", "head_by"] (MI T) := by
 refine T.Fg.F.okX MG (fun vs H Q E h => ?_) (fun cdv A outer s H vs Q E hr h => ?_)
 ·obtain ⟨b, S, P, ow, gs, past, p, x, y, rfl, hb, kE, k⟩ := h
  rfl
 ·obtain ⟨b, S, P, ow, gs, past, p, x, y, rfl, hb, kE, k⟩ := h
  have hu := At hr
  refine ⟨_, (AE (AI (Fe (pv 0) T.Ag T.Ct.mt (Hu T) (hr.mono (by decide)) T.Ct.b .nil Ki (AA (pv 1) (AA (F7 Di (pv 2)) (AA (F7 Di (pv 3)) AD)))))), ?_⟩
  obtain ⟨dx, eb⟩ := hb.at_
  walk_at "RD"
  exact ⟨dx, _, eb, rfl, b, S, P, ow, gs, past, p, -x, -y, rfl, hb, kE, k⟩
theorem HU : AY ["self", "many", "left"] ["self", "many"] (AH Fj) := by walk_at "SC"
def HP {K : PySem.W.Frag} {mg : Str → Option Value} (T : Tx K mg) : Sp := fun vs H Q E => ∃ (b S P : Addr) (ow : List Addr) (gs : List G) (past : List (List G)) (n : Int), vs = [.ref b, .int n] ∧ Bch T.AW H b S P ow gs past ∧ (∀ e, JY past n = some e → E (T.err e) none H) ∧ (JY past n = none → ∀ H' S' P' ow', Kp b b H H' → Bch T.AW H' b S' P' ow' (past.getD (past.length - n.toNat) []) (past.take (past.length - n.toNat)) → (∀ a ∈ ow', a ∈ ow ∨ H a = none) → Q (.int ((past.take (past.length - n.toNat)).length : Int)) H')
theorem Ha (T : Tx K mg) : Ay P w K mg base (CXE P w) 1 T.Je T.Hb ["self", "many"] (HP T) := by
 refine T.B3.F.okX HU (fun vs H Q E h => ?_) (fun cdv A outer s H vs Q E hr h => ?_)
 ·obtain ⟨b, S, P, ow, gs, past, n, rfl, hb, kE, k⟩ := h
  rfl
 ·obtain ⟨b, S, P, ow, gs, past, n, rfl, hb, kE, k⟩ := h
  have hu := At hr
  refine ⟨_, (AC (Ah (AQ Hz (pv 1) AB (AS _)) (AE (Cz Jg rfl T.HV (by rfl) T.FB (AA Af AD)))
    AV)
   (AC (Ah (AQ GB (pv 1) (AM AU (by rfl) T.A8 Ax (AA (CB (pv 0) rfl) AD)) (AS _)) (AE (Cz Jg rfl T.MX (by rfl) T.Hn (AA Af AD)))
    AV)
   (AC (AJ (i := 2) HU.nd rfl (by walk_at "O") (AF Am (AM AU (by rfl) T.A8 Ax (AA (CB (pv 0) rfl) AD)) (pv 1)))
   (AC (LP (pv 0) (AG AN (CB (pv 0) rfl) (pv 2) (fun _ _ => rfl)) rfl)
   (AC (LP (pv 0) (JC Jm (CB (pv 0) rfl) Ky (Kx (pv 2))) rfl)
   (AE (AI (pv 2)))))))), ?_⟩
  obtain ⟨dx, eb⟩ := hb.at_
  obtain ⟨ps, ep, pr, hps⟩ := hb.pa
  have lp := Paired.length pr
  have lm : (ps.map V.ref).length = past.length := by rw [List.length_map, lp]
  unfold JY at kE k
  walk_at "Q"
  walk_at "RD"
  by_cases h1 : n < 1
  ·rw [if_pos (decide_eq_true h1)]
   rw [if_pos h1] at kE
   exact ⟨by decide, kE _ rfl⟩
  rw [if_neg (fun z => h1 (of_decide_eq_true z))]
  rw [if_neg h1] at kE k
  walk_at "NX"
  walk_at "Q"
  walk_at "RD"
  refine ⟨_, dx, _, eb, T.Ag, T.BH, _, rfl, _, rfl, _, .inl (SqL.of ep), ?_⟩
  rw [lm]
  by_cases h2 : (past.length : Int) < n
  ·rw [if_pos (decide_eq_true h2)]
   rw [if_pos h2] at kE
   exact ⟨by decide, kE _ rfl⟩
  rw [if_neg (fun z => h2 (of_decide_eq_true z))]
  rw [if_neg h2] at k
  walk_at "NX"
  walk_at "Q"
  walk_at "RD"
  refine ⟨_, dx, _, eb, T.Ag, T.BH, _, rfl, _, rfl, _, .inl (SqL.of ep), ?_⟩
  rw [lm]
  walk_at "NX"
  walk_at "RD"
  obtain ⟨j, hj⟩ : ∃ j : Nat, (past.length : Int) - n = j := ⟨((past.length : Int) - n).toNat, by omega⟩
  have ej : past.length - n.toNat = j := by omega
  rw [ej] at k
  have hjl : j < past.length := by omega
  obtain ⟨S', hS', gS'⟩ := Paired.get pr (List.getElem?_eq_getElem hjl)
  have hSm : S' ∈ ps := List.mem_of_getElem? hS'
  have hSo := hps S' hSm
  obtain ⟨xs', eS'⟩ := hb.lv S' hSo.1
  have Sb : S' ≠ b := hb.neb eS' fun _ _ _ z => by cases z
  have bP : b ≠ P := Bv eb ep (by simp)
  have hix : atI (ps.map V.ref) ((past.length : Int) - n) = some (V.ref S') := by rw [hj]; exact DV hS'
  refine ⟨_, dx, _, eb, T.Ag, T.BH, _, rfl, _, rfl, _, SqL.of ep, _, hix, _, dx, _, eb, T.Ag, T.Aq, (by show 2 < 1000; decide), ?_⟩
  refine ⟨_, dx, _, AO, T.Ag, T.BH, _, rfl, _, rfl, _, SqL.of ((AK bP.symm).trans ep), ?_⟩
  intro P2 H2 n2 s2 e2
  have hcut : Mc (ps.map V.ref) none (some ((past.length : Int) - n)) = (ps.take j).map V.ref := by
   rw [hj]
   exact (ME).trans (List.map_take).symm
  rw [hcut] at e2
  have nP2 : H P2 = none := by
   have h1 : P2 ≠ b := fun z => by rw [z, AO] at n2; cases n2
   rwa [AK h1] at n2
  have P2b : P2 ≠ b := (Ap eb nP2).symm
  have hv : (past.length : Int) - n = ((past.take j).length : Int) := by rw [List.length_take]; omega
  rw [hv]
  have kp2 : ∀ a u, a ≠ b → H a = some u → H2 a = some u := fun a u ha e => s2.get ((AK ha).trans e)
  have kp : Kp b b H (upd H2 b (.ins T.AW dx [("standing", .ref S'), ("past", .ref P2)])) := fun a u ha _ e => (AK ha).trans (kp2 a u ha e)
  have kt : ∀ a xs, H a = some (.tup xs) → upd H2 b (.ins T.AW dx [("standing", .ref S'), ("past", .ref P2)]) a = some (.tup xs) := fun a xs e => kp a _ (hb.neb e fun _ _ _ z => by cases z) (hb.neb e fun _ _ _ z => by cases z) e
  have kl : ∀ a ∈ ow, ∀ u, H a = some u → upd H2 b (.ins T.AW dx [("standing", .ref S'), ("past", .ref P2)]) a = some u := fun a ha u e => by
   obtain ⟨_, ea⟩ := hb.lv a ha
   have hab := hb.neb ea fun _ _ _ z => by cases z
   exact kp a u hab hab e
  refine ⟨_, dx, _, s2.get AO, T.Ag, T.BH, (by show 2 < 1000; decide), k rfl _ S' P2 (P2 :: ow) kp ?_ fun a ha => ?_⟩
  ·have eg : past.getD j [] = past[j] := by rw [List.getD_eq_getElem?_getD, List.getElem?_eq_getElem hjl]; rfl
   rw [eg]
   refine ⟨⟨dx, AO⟩, gS'.keep (kl S' hSo.1) kt, ⟨ps.take j, (AK P2b).trans e2, ?_, fun a ha => ⟨List.mem_cons_of_mem _ (hps a (List.mem_of_mem_take ha)).1, fun z => (by rw [z] at ha; exact hb.off nP2 (hps P2 (List.mem_of_mem_take ha)).1)⟩⟩, fun z => (by rw [z, nP2] at eS'; cases eS'), List.mem_cons_of_mem _ hSo.1, List.mem_cons_self, hb.stds _ (List.getElem_mem hjl), fun x hx => hb.stds x (List.mem_of_mem_take hx), by rw [List.length_take]; have := hb.len; omega, fun a ha => ?_⟩
   ·exact Paired.keepM (Paired.takeP pr j) fun x y hx q => q.keep (kl x (hps x (List.mem_of_mem_take hx)).1) kt
   ·rcases List.mem_cons.mp ha with z | z
    ·rw [z]; exact ⟨_, (AK P2b).trans e2⟩
    ·obtain ⟨xs, ea⟩ := hb.lv a z
     exact ⟨xs, kl a z _ ea⟩
  ·rcases List.mem_cons.mp ha with z | z
   ·rw [z]; exact .inr nP2
   ·exact .inl z
theorem Lb : AY ["self"] ["self"] (AH E5) := by walk_at "SC"
def L8 {K : PySem.W.Frag} {mg : Str → Option Value} (T : Tx K mg) : Sp := fun vs H Q E => ∃ (b S P : Addr) (ow : List Addr) (gs : List G) (past : List (List G)), vs = [.ref b] ∧ Bch T.AW H b S P ow gs past ∧ ∀ H' D as, H D = none → AL H H' → H' D = some (.lst (as.map V.ref)) → Az H' as gs → Q (.ref D) H'
theorem Tf (T : Tx K mg) : Ay P w K mg base CX0 1 T.Hl T.Gr ["self"] (L8 T) := by
 refine T.MR.F.ok Lb (fun vs H Q E h => ?_) (fun cdv A outer s H vs Q E hr h => ?_)
 ·obtain ⟨b, S, P, ow, gs, past, rfl, hb, k⟩ := h
  rfl
 ·obtain ⟨b, S, P, ow, gs, past, rfl, hb, k⟩ := h
  have hu := At hr
  refine ⟨_, (AE (AI (G9 Pz (by rfl) T.Sk Q6 (AA (CB (pv 0) rfl) AD)))), ?_⟩
  obtain ⟨dx, eb⟩ := hb.at_
  obtain ⟨as, es, ga⟩ := hb.st
  walk_at "RD"
  refine ⟨_, dx, _, eb, T.Ag, T.Aq, _, rfl, ?_⟩
  refine ⟨_, rfl, _, .inl (SqL.of es), fun l H' n s e => ?_⟩
  exact k H' l as n s e (ga.same s)
theorem L9 : AY ["self"] ["self"] (AH Ew) := by walk_at "SC"
def Lv {K : PySem.W.Frag} {mg : Str → Option Value} (T : Tx K mg) : Sp := fun vs H Q E => ∃ (b S P : Addr) (ow : List Addr) (gs : List G) (past : List (List G)), vs = [.ref b] ∧ Bch T.AW H b S P ow gs past ∧ Q (.int past.length) H
theorem TM (T : Tx K mg) : Ay P w K mg base CX0 1 T.HS T.Gh ["self"] (Lv T) := by
 refine T.Mi.F.ok L9 (fun vs H Q E h => ?_) (fun cdv A outer s H vs Q E hr h => ?_)
 ·obtain ⟨b, S, P, ow, gs, past, rfl, hb, k⟩ := h
  rfl
 ·obtain ⟨b, S, P, ow, gs, past, rfl, hb, k⟩ := h
  have hu := At hr
  refine ⟨_, (AE (AI (AM AU (by rfl) T.A8 Ax (AA (CB (pv 0) rfl) AD)))), ?_⟩
  obtain ⟨dx, eb⟩ := hb.at_
  obtain ⟨ps, ep, pr, _⟩ := hb.pa
  have lp := Paired.length pr
  walk_at "RD"
  refine ⟨_, dx, _, eb, T.Ag, T.BH, _, rfl, ?_⟩
  refine ⟨_, rfl, _, .inl (SqL.of ep), ?_⟩
  rw [List.length_map, lp]
  exact k
theorem Ma : AY ["self"] ["self"] (AH Ft) := by walk_at "SC"
def Mg {K : PySem.W.Frag} {mg : Str → Option Value} (T : Tx K mg) : Sp := fun vs H Q E => ∃ (b S P : Addr) (ow : List Addr) (gs : List G) (past : List (List G)), vs = [.ref b] ∧ Bch T.AW H b S P ow gs past ∧ LM.Tbl H Cr Dl Kv ∧ ((gs.length = 0 ∨ 12 < gs.length) → E (T.err .size) none H) ∧ (1 ≤ gs.length → gs.length ≤ 12 → ∀ D H' L q t sg, H L = none → Bw Cr H H' → LM.Tbl H' Cr Dl Kv → Ev H' D gs L q t sg → Q (.ref D) H')
theorem Mn (T : Tx K mg) : Ay P w K mg base (CXE P w) 10 T.Jq T.Ho ["self"] (Mg T) := by
 refine T.Fi.F.okX Ma (fun vs H Q E h => ?_) (fun cdv A outer s H vs Q E hr h => ?_)
 ·obtain ⟨b, S, P, ow, gs, past, rfl, hb, tb, kE, k⟩ := h
  rfl
 ·obtain ⟨b, S, P, ow, gs, past, rfl, hb, tb, kE, k⟩ := h
  have hu := At hr
  refine ⟨_, (AC (Ah (GY (AQ A5 (AM AU (by rfl) T.A8 Ax (AA (CB (pv 0) rfl) AD)) AB (AS _)) (Ey (AQ GB (AM AU (by rfl) T.A8 Ax (AA (CB (pv 0) rfl) AD)) (Ih (v := .int (12)) (by rfl) T.MK T.ML) (AS _)))).pt (AE (Cz Jg rfl T.PV (by rfl) T.KU (AA Af AD)))
    AV)
   (AE (AI (AR (MU T) (hr.mono (by decide)) (by rfl) T.D7.m T.D7.F.kp T.D7.b .nil Ad (AA (CB (pv 0) rfl) AD))))), ?_⟩
  obtain ⟨dx, eb⟩ := hb.at_
  obtain ⟨as, es, ga⟩ := hb.st
  walk_at "RD"
  have la := ga.len
  refine ⟨_, dx, _, eb, T.Ag, T.Aq, _, rfl, S, rfl, _, .inl (SqL.of es), ?_⟩
  rw [List.length_map, la]
  by_cases h0 : gs.length = 0
  ·rw [if_pos (decide_eq_true (by omega))]
   exact ⟨by decide, kE (.inl h0)⟩
  ·rw [if_neg (fun z => h0 (by have := of_decide_eq_true z; omega))]
   refine ⟨_, dx, _, eb, T.Ag, T.Aq, _, rfl, S, rfl, _, .inl (SqL.of es), ?_⟩
   rw [List.length_map, la]
   by_cases h12 : 12 < gs.length
   ·rw [if_pos (decide_eq_true (by omega))]
    exact ⟨by decide, kE (.inr h12)⟩
   ·rw [if_neg (fun z => h12 (by have := of_decide_eq_true z; omega))]
    refine ⟨_, dx, _, eb, T.Ag, T.Aq, _, rfl, ?_⟩
    exact ⟨S, as, gs, rfl, SqL.of es, ga, hb.std.nd, by omega, by omega, hb.std.ok, tb, k (by omega) (by omega)⟩
theorem UD : AY ["_law_script", "_law_k"] ["_law_script", "_law_k"] (AH QO) := by walk_at "SC"
def G8 (K : PySem.W.Frag) : Sp := fun vs H Q _ => ∃ (a : Addr) (k : Int) (ns : List Int), vs = [.ref a, .int k] ∧ 0 ≤ k ∧ SqL K H a (ns.map V.int) ∧ Q (.int (ns.getD k.toNat 0)) H
theorem JE (T : Tx K mg) : Ay P w K mg base CX0 1 T.Sh T.Q9 ["_law_script", "_law_k"] (G8 K) := by
 refine T.CC.F.ok UD (fun vs H Q E h => ?_) (fun cdv A outer s H vs Q E hr h => ?_)
 ·obtain ⟨a, k, ns, rfl, h0, hS, hq⟩ := h
  rfl
 ·obtain ⟨a, k, ns, rfl, h0, hS, hq⟩ := h
  have hu := At hr
  refine ⟨_, (AC (Ah (AQ Hz (pv 1) (AM AU (by rfl) T.A8 Ax (AA (pv 0) AD)) (AS _)) (AE (AI (AG AN (pv 0) (pv 1) (fun _ _ => rfl))))
    AV)
   (AE (AI AB))), ?_⟩
  walk_at "RD"
  refine ⟨_, Or.inl hS, ?_⟩
  obtain ⟨k, rfl⟩ := Int.eq_ofNat_of_zero_le h0
  rw [List.length_map]
  by_cases hk : k < ns.length
  ·rw [if_pos (by simpa using hk)]
   refine ⟨_, hS, _, N0 (v := V.int (ns.getD k 0)) ?_, hq⟩
   rw [List.getElem?_map, List.getElem?_eq_getElem hk, List.getD_eq_getElem?_getD, List.getElem?_eq_getElem hk]
   rfl
  ·rw [if_neg (by simpa using hk)]
   rw [Int.toNat_natCast, List.getD_eq_getElem?_getD, List.getElem?_eq_none (by omega)] at hq
   exact hq
theorem Bu : AY ["_law_cell", "_law_many", "_law_mixed", "_law_row", "_law_left", "_law_once", "_law_k"] ["_law_cell", "_law_many", "_law_mixed"] (AH IW) := by walk_at "SC"
def DU : Sp := fun vs H Q _ => ∃ (c m : Int) (b : Bool), vs = [.int c, .int m, .bl b] ∧ 0 ≤ m ∧ m ≤ 100 ∧ ∀ D H' (xs : List Int), H D = none → AL H H' → H' D = some (.lst (xs.map V.int)) → xs.length = m.toNat → Q (.ref D) H'
def W_spr (c m : Int) (b : Bool) (D : Addr) (H : Hp) : Nat → St → Hp → Prop := fun i σ H' => ∃ (xs : List Int) (lf on : Int) (k : Option V), σ = [some (.int c), some (.int m), some (.bl b), some (.ref D), some (.int lf), some (.int on), k] ∧ AL H H' ∧ H' D = some (.lst (xs.map V.int)) ∧ xs.length = i ∧ 0 ≤ on ∧ on < 2147483647
theorem Db (T : Tx K mg) : Ay P w K mg base CX0 1 T.MF T.Kk ["_law_cell", "_law_many", "_law_mixed"] DU := by
 refine T.A0.F.ok Bu (fun vs H Q E h => ?_) (fun cdv A outer s H vs Q E hr h => ?_)
 ·obtain ⟨c, m, b, rfl, h0, h1, k⟩ := h
  rfl
 ·obtain ⟨c, m, b, rfl, h0, h1, k⟩ := h
  have hu := At hr
  refine ⟨_, (AC (AJ (i := 3) Bu.nd rfl (by walk_at "O") (An AD))
   (AC (AJ (i := 4) Bu.nd rfl (by walk_at "O") (pv 0))
   (AC (AJ (i := 5) Bu.nd rfl (by walk_at "O") (AF Aa (pv 0) AB))
   (AC (BO PassesOwn.never rfl (Bo (by rfl) T.Bx (AA (pv 1) AD)) (AZ (i := 6) Bu.nd rfl (by walk_at "O"))
    (AC (AJ (i := 5) Bu.nd rfl (by walk_at "O") (AF Aa (AF Al (AF Al (AF DD (pv 5) AB) AB) (pv 6)) AB))
     (AE (Ah (Bc (pv 2)) (AE (BX (DN (pv 3) (AF Aa (AF Aa (AF Al (AF DD (pv 5) AB) (pv 6)) AB) AB))))
      (AC (BX (DN (pv 3) (AF Aa (pv 4) AB)))
       (AE (AJ (i := 4) Bu.nd rfl (by walk_at "O") (AF Br (pv 4) AB))))))))
   (AE (AI (pv 3))))))), ?_⟩
  walk_at "RD"
  walk_at "AUTO"
  refine ⟨_, rfl, m, rfl, by omega, by omega, BM (n := m.toNat) (W_spr c m b p H) ⟨[], _, _, none, rfl, hs, he, rfl, by omega, by omega⟩ ?_ ?_⟩
  ·rintro i σ H1 hi ⟨xs, lf, on, k', rfl, s1, e1, hl, o1, o2⟩
   have hz : (xs.map V.int).length < sizeLine := by rw [List.length_map, PySem.sizeLine_eq]; omega
   walk_at "RD"
   walk_at "AUTO"
   cases b
   ·rw [if_neg (by decide)]
    refine ⟨⟨_, e1⟩, _, e1, hz, ?_⟩
    walk_at "AUTO"
    refine ⟨xs ++ [lf % 4004001], _, _, _, rfl, s1.updFresh hn, ?_, by rw [List.length_append, hl]; rfl, by omega, by omega⟩
    rw [AO, List.map_append]; rfl
   ·rw [if_pos rfl]
    refine ⟨⟨_, e1⟩, _, e1, hz, ?_⟩
    walk_at "AUTO"
    refine ⟨xs ++ [((on * 48271 + 11 + (0 + (i : Int))) % 2147483647 * 69621 + (0 + (i : Int))) % 2147483647 % 4004001], _, _, _, rfl, s1.updFresh hn, ?_, by rw [List.length_append, hl]; rfl, by omega, by omega⟩
    rw [AO, List.map_append]; rfl
  ·rintro σ H1 ⟨xs, lf, on, k', rfl, s1, e1, hl, o1, o2⟩
   walk_at "RD"
   exact k _ _ xs hn s1 e1 hl
theorem FZ : AY ["_law_kind", "_law_line", "_law_wide", "_law_low", "_law_high", "_law_under", "_law_over"] ["_law_kind", "_law_line", "_law_wide", "_law_low", "_law_high"] (AH Gk) := by walk_at "SC"
def Ij : Sp := fun vs H Q _ => ∃ kd ln wd lo hi : Int, vs = [.int kd, .int ln, .int wd, .int lo, .int hi] ∧ 0 < wd ∧ wd < 10000 ∧ ∀ D H' f h, AL H H' → H' D = some (.tup [.int f, .int h]) → Q (.ref D) H'
theorem N8 (T : Tx K mg) : Ay P w K mg base CX0 1 T.Ke T.Iz ["_law_kind", "_law_line", "_law_wide", "_law_low", "_law_high"] Ij := by
 refine T.Ec.F.ok FZ (fun vs H Q E h => ?_) (fun cdv A outer s H vs Q E hr h => ?_)
 ·obtain ⟨kd, ln, wd, lo, hi, rfl, h0, h1, k⟩ := h
  rfl
 ·obtain ⟨kd, ln, wd, lo, hi, rfl, h0, h1, k⟩ := h
  have hu := At hr
  refine ⟨_, (AC (AJ (i := 5) FZ.nd rfl (by walk_at "O") (AF Br (pv 1) (pv 2)))
   (AC (AJ (i := 6) FZ.nd rfl (by walk_at "O") (F7 Di (AF Br (F7 Di (pv 1)) (pv 2))))
   (AC (Ah (AQ A5 (pv 0) AB (AS _)) (AE (AI (Av (AA (AF Am (AF Aa (pv 3) AB) AB) (AA (AF Al (AF Am (AF Aa (pv 3) AB) AB) (AF Aa (pv 4) AB)) AD)))))
    AV)
   (AC (Ah (AQ A5 (pv 0) AB (AS _)) (AE (AI (Av (AA (AF Am (AF Aa (pv 3) AB) AB) (AA (AF Al (AF Am (AF Aa (pv 3) AB) AB) (AF Aa (pv 4) AB)) AD)))))
    AV)
   (AC (Ah (De (AQ A5 (pv 0) AB (AS _)) (C1 (AQ A5 (AF Aa (pv 3) AB) AB (AS _)))).pt (AE (AI (Av (AA (pv 6) (AA (AF Al (pv 6) (AF Aa (pv 4) AB)) AD)))))
    AV)
   (AC (Ah (AQ A5 (pv 0) AB (AS _)) (AE (AI (Av (AA (AF Am (pv 5) (AF Aa (pv 4) AB)) (AA (pv 5) AD)))))
    AV)
   (AE (AI (Av (AA (AF Am (pv 5) (AF Aa (pv 3) AB)) (AA (AF Al (pv 6) (AF Aa (pv 4) AB)) AD))))))))))), ?_⟩
  walk_at "Q"
  walk_at "RD"
  walk_at "AUTO"
  walk_at "NX"
  walk_at "Q"
  walk_at "RD"
  walk_at "AUTO"
  walk_at "NX"
  walk_at "RD"
  walk_at "AUTO"
  repeat' (first | split | exact k _ _ _ _ (by assumption) (by assumption) | walk_at "STEP")
theorem Ar : AY ["_law_script", "_law_at_here", "_law_many", "_law_cell", "_law_kind", "_law_places", "_law_lows", "_law_highs", "_law_span", "_law_near", "_law_ends", "_law_made", "_law_used", "_law_k", "_law_place", "_law_step_here", "_law_line", "_law_foot", "_law_head"] ["_law_script", "_law_at_here", "_law_many"] (AH KD) := by walk_at "SC"
def Qf (K : PySem.W.Frag) : Sp := fun vs H Q _ => ∃ (a : Addr) (at' many : Int) (ns : List Int), vs = [.ref a, .int at', .int many] ∧ SqL K H a (ns.map V.int) ∧ 0 ≤ at' ∧ at' ≤ 63 ∧ 0 ≤ many ∧ many ≤ 41 ∧ ∀ D H' as gs, H D = none → AL H H' → H' D = some (.lst (as.map V.ref)) → Az H' as gs → gs.length = many.toNat → (∀ g ∈ gs, OkG g) → (gs.map G.p).Nodup → Q (.ref D) H'
def Cf (fr : St) (H : Hp) : St → Hp → Prop := fun σ H' => ∃ f h : Int, σ = fr ++ [some (.int f), some (.int h)] ∧ H' = H
structure Gb (many span near e0 e1 : Int) : Prop where
 s0 : 2 ≤ span
 s1 : span ≤ 2001
 s2 : many ≤ span
 n0 : -1000 ≤ near
 n1 : near + span ≤ 1001
 b0 : e0.natAbs ≤ 1000
 b1 : e1.natAbs ≤ 10000
structure Gl (H' : Hp) (P L R E : Addr) (ps ls rs : List Int) (e0 e1 : Int) : Prop where
 eP : H' P = some (.lst (ps.map V.int))
 eL : H' L = some (.lst (ls.map V.int))
 eR : H' R = some (.lst (rs.map V.int))
 eE : H' E = some (.lst [.int e0, .int e1])
theorem Gl.same {H H' : Hp} {P L R E : Addr} {ps ls rs : List Int} {e0 e1 : Int} (g : Gl H P L R E ps ls rs e0 e1) (s : AL H H') : Gl H' P L R E ps ls rs e0 e1 := ⟨s.get g.eP, s.get g.eL, s.get g.eR, s.get g.eE⟩
def Cg (a P L R : Addr) (at' many cl : Int) (ps ls rs : List Int) (H : Hp) : St → Hp → Prop := fun σ H' => ∃ (E : Addr) (span near e0 e1 : Int), σ = [some (.ref a), some (.int at'), some (.int many), some (.int cl), some (.int (cl / 2 % 5)), some (.ref P), some (.ref L), some (.ref R), some (.int span), some (.int near), some (.ref E), none, none, none, none, none, none, none, none] ∧ AL H H' ∧ Gl H' P L R E ps ls rs e0 e1 ∧ Gb many span near e0 e1
structure Gm (H' : Hp) (M U : Addr) (as : List Addr) (gs : List G) (kvs : List (Key × V)) (near span : Int) (i : Nat) : Prop where
 eM : H' M = some (.lst (as.map V.ref))
 at_ : Az H' as gs
 eU : H' U = some (.dK kvs)
 len : gs.length = i
 kl : kvs.length ≤ i
 keys : ∀ z : Int, (Bz kvs (Sum.inl z : Key)).isSome = true ↔ z ∈ gs.map G.p
 ok : ∀ g ∈ gs, OkG g
 nd : (gs.map G.p).Nodup
 stretch : ∀ g ∈ gs, near ≤ g.p ∧ g.p < near + span
def Wg (a P L R E M U : Addr) (at' many cl span near : Int) (H : Hp) : Nat → St → Hp → Prop := fun i σ H' => ∃ (as : List Addr) (gs : List G) (kvs : List (Key × V)) (x1 x2 x3 x4 x5 x6 : Option V), σ = [some (.ref a), some (.int at'), some (.int many), some (.int cl), some (.int (cl / 2 % 5)), some (.ref P), some (.ref L), some (.ref R), some (.int span), some (.int near), some (.ref E), some (.ref M), some (.ref U), x1, x2, x3, x4, x5, x6] ∧ AL H H' ∧ Gm H' M U as gs kvs near span i
def Wi (a P L R E M U : Addr) (at' many cl span near : Int) (gs : List G) (kk p0 : Int) (x4 x5 x6 : Option V) (H : Hp) : Nat → St → Hp → Prop := fun j σ H' => ∃ (pl : Int) (x3 : Option V), σ = [some (.ref a), some (.int at'), some (.int many), some (.int cl), some (.int (cl / 2 % 5)), some (.ref P), some (.ref L), some (.ref R), some (.int span), some (.int near), some (.ref E), some (.ref M), some (.ref U), some (.int kk), some (.int pl), x3, x4, x5, x6] ∧ H' = H ∧ near ≤ pl ∧ pl < near + span ∧
 (pl ∉ gs.map G.p ∨ (pl = near + (p0 - near + j) % span ∧ ∀ t : Nat, t < j → near + (p0 - near + t) % span ∈ gs.map G.p))
theorem QR (T : Tx K mg) : Ay P w K mg base CX0 2 T.M6 T.Lo ["_law_script", "_law_at_here", "_law_many"] (Qf K) := by
 refine T.G7.F.ok Ar (fun vs H Q E h => ?_) (fun cdv A outer s H vs Q E hr h => ?_)
 ·obtain ⟨a, at', many, ns, rfl, hS, a0, a1, m0, m1, k⟩ := h
  rfl
 ·obtain ⟨a, at', many, ns, rfl, hS, a0, a1, m0, m1, k⟩ := h
  have hu := At hr
  refine ⟨_, (AC (AJ (i := 3) Ar.nd rfl (by walk_at "O") (AR (JE T) (hr.mono (by decide)) (by rfl) T.CC.m T.CC.F.kp T.CC.b .nil Ad (AA (pv 0) (AA (pv 1) AD))))
   (AC (AJ (i := 4) Ar.nd rfl (by walk_at "O") (AF Aa (AF Br (pv 3) AB) AB))
   (AC (AJ (i := 5) Ar.nd rfl (by walk_at "O") (AR (Db T) (hr.mono (by decide)) (by rfl) T.A0.m T.A0.F.kp T.A0.b .nil Ad (AA (AR (JE T) (hr.mono (by decide)) (by rfl) T.CC.m T.CC.F.kp T.CC.b .nil Ad (AA (pv 0) (AA (AF Al (pv 1) AB) AD))) (AA (AF Al (pv 2) AB) (AA (BY A5 (AF Aa (pv 3) AB) AB (AS _)) AD)))))
   (AC (AJ (i := 6) Ar.nd rfl (by walk_at "O") (AR (Db T) (hr.mono (by decide)) (by rfl) T.A0.m T.A0.F.kp T.A0.b .nil Ad (AA (AR (JE T) (hr.mono (by decide)) (by rfl) T.CC.m T.CC.F.kp T.CC.b .nil Ad (AA (pv 0) (AA (AF Al (pv 1) AB) AD))) (AA (AF Al (pv 2) AB) (AA (BY A5 (AF Aa (pv 3) AB) AB (AS _)) AD)))))
   (AC (AJ (i := 7) Ar.nd rfl (by walk_at "O") (AR (Db T) (hr.mono (by decide)) (by rfl) T.A0.m T.A0.F.kp T.A0.b .nil Ad (AA (AR (JE T) (hr.mono (by decide)) (by rfl) T.CC.m T.CC.F.kp T.CC.b .nil Ad (AA (pv 0) (AA (AF Al (pv 1) AB) AD))) (AA (AF Al (pv 2) AB) (AA (BY A5 (AF Aa (pv 3) AB) AB (AS _)) AD)))))
   (AC (AJ (i := 8) Ar.nd rfl (by walk_at "O") (AM (Jw (by rfl)) (by rfl) T.Pa Nz (AA AB (AA (AG AN (An (AA (AF Al (pv 2) (AF Aa (AG AN (pv 5) (pv 2) (fun _ _ => rfl)) AB)) (AA AB AD))) (AF Aa (AF Br (pv 3) AB) AB) (fun _ _ => rfl)) AD))))
   (AC (AJ (i := 9) Ar.nd rfl (by walk_at "O") (AF Am (AF Aa (AG AN (pv 5) (AF Al (pv 2) AB) (fun _ _ => rfl)) (AF Am AB (pv 8))) AB))
   (AC (AJ (i := 10) Ar.nd rfl (by walk_at "O") (An (AA (AF Am (AF Aa (AG AN (pv 6) (pv 2) (fun _ _ => rfl)) AB) AB) (AA (AF Am (AF Aa (AG AN (pv 7) (pv 2) (fun _ _ => rfl)) AB) AB) AD))))
   (Bt (Ah (AQ A5 (pv 4) AB (AS _)) (AE (Fc (AF Al (AG AN (pv 10) AB (fun _ _ => rfl)) (AF DD (AF Am (AF Aa (AG AN (pv 10) AB (fun _ _ => rfl)) AB) AB) (AF Am (pv 8) AB))) (U9 (pv 10) AB TX)))
    AV)
   (AC (AJ (i := 11) Ar.nd rfl (by walk_at "O") (An AD))
   (AC (AJ (i := 12) Ar.nd rfl (by walk_at "O") Oe)
   (AC (BO PassesOwn.never rfl (Bo (by rfl) T.Bx (AA (pv 2) AD)) (AZ (i := 13) Ar.nd rfl (by walk_at "O"))
    (AC (AJ (i := 14) Ar.nd rfl (by walk_at "O") (AF Al (pv 9) (AF Aa (AG AN (pv 5) (pv 13) (fun _ _ => rfl)) (pv 8))))
     (AC (BO PassesOwn.never rfl (Bo (by rfl) T.Bx (AA (pv 13) AD)) (AZ (i := 15) Ar.nd rfl (by walk_at "O"))
      (AE (Ah (P7 (Sa hu (pv 14) (pv 12))) (AE (AJ (i := 14) Ar.nd rfl (by walk_at "O") (AF Al (pv 9) (AF Aa (AF Al (AF Am (pv 14) (pv 9)) AB) (pv 8)))))
        AV)))
     (AC (RE hu (pv 12) (pv 14) BE rfl)
     (AC (AJ (i := 16) Ar.nd rfl (by walk_at "O") (AF Al (AF DD (AG AN (pv 10) AB (fun _ _ => rfl)) (AF Am (pv 8) AB)) (AF DD (AF Am (AG AN (pv 10) AB (fun _ _ => rfl)) (AG AN (pv 10) AB (fun _ _ => rfl))) (AF Am (pv 14) (pv 9)))))
     (AC (Fc (AR (N8 T) (hr.mono (by decide)) (by rfl) T.Ec.m T.Ec.F.kp T.Ec.b .nil Ad (AA (pv 4) (AA (pv 16) (AA (AF Am (pv 8) AB) (AA (AG AN (pv 6) (pv 13) (fun _ _ => rfl)) (AA (AG AN (pv 7) (pv 13) (fun _ _ => rfl)) AD)))))) (Fm (n := 2) rfl (Ao (AZ (i := 17) Ar.nd rfl (by walk_at "O")) (Ao (AZ (i := 18) Ar.nd rfl (by walk_at "O")) Cy))))
     (Bt (Ah (De (AQ A5 (pv 4) AB (AS _)) (C1 (AQ A5 (pv 13) (AF Aa (AG AN (pv 6) (AF Al (pv 2) AB) (fun _ _ => rfl)) (pv 2)) (AS _)))).pt (AC (AJ (i := 17) Ar.nd rfl (by walk_at "O") (AF Am (AF Al (pv 17) (AF Aa (AG AN (pv 7) (AF Al (pv 2) AB) (fun _ _ => rfl)) AB)) AB))
       (AE (AJ (i := 18) Ar.nd rfl (by walk_at "O") (AF Am (AF Al (pv 18) (AF Aa (AG AN (pv 7) (AF Al (pv 2) AB) (fun _ _ => rfl)) AB)) AB))))
      AV)
     (AC (AJ (i := 17) Ar.nd rfl (by walk_at "O") (AM (Jw (by rfl)) (by rfl) T.Pa Nz (AA (F7 Di AB) (AA (AM (NE (by rfl)) (by rfl) T.Ud SQ (AA AB (AA (pv 17) AD))) AD))))
     (AE (BX (DN (pv 11) (Av (AA (pv 14) (AA (pv 17) (AA (AM (Jw (by rfl)) (by rfl) T.Pa Nz (AA (pv 17) (AA (AM (NE (by rfl)) (by rfl) T.Ud SQ (AA AB (AA (pv 18) AD))) AD))) AD)))))))))))))))
   (AE (AI (pv 11))))))))))))))), ?_⟩
  walk_at "Q"
  delta G8
  walk_at "AUTO"
  walk_at "NX"
  walk_at "Q"
  walk_at "RD"
  walk_at "NX"
  walk_at "Q"
  delta G8 DU
  walk_at "AUTO"
  intro P H1 ps nP s1 eP lP
  walk_at "NX"
  walk_at "Q"
  delta G8 DU
  walk_at "AUTO"
  intro L H2 ls nL s2 eL lL
  walk_at "NX"
  walk_at "Q"
  delta G8 DU
  walk_at "AUTO"
  intro R H3 rs nR s3 eR lR
  walk_at "NX"
  walk_at "Q"
  walk_at "RD"
  walk_at "AUTO"
  obtain ⟨sp, hsp, hsp2⟩ := atL2 (x := many + ps.getD many.toNat 0 % 9) (y := 2001) (e := ns.getD at'.toNat 0 / 10 % 2) (by omega) (by omega)
  walk_at "AUTO"
  have hspB : 2 ≤ (if sp > 2 then sp else 2) ∧ (if sp > 2 then sp else 2) ≤ 2001 ∧ many ≤ (if sp > 2 then sp else 2) := by split <;> omega
  generalize (if sp > 2 then sp else 2) = span at hspB ⊢
  obtain ⟨hb1, hb2, hb3⟩ := hspB
  walk_at "NX"
  walk_at "Q"
  walk_at "RD"
  walk_at "AUTO"
  walk_at "NX"
  have hnear := Int.emod_nonneg (ps.getD (many + 1).toNat 0) (show (2002 - span) ≠ 0 by omega)
  have hnear2 := Int.emod_lt_of_pos (ps.getD (many + 1).toNat 0) (show 0 < 2002 - span by omega)
  generalize ps.getD (many + 1).toNat 0 % (2002 - span) = nr at hnear hnear2 ⊢
  walk_at "Q"
  walk_at "RD"
  walk_at "AUTO"
  walk_at "NX"
  have hp0 : H p = none := AL.free (by walk_at "SAME8") hn
  refine ⟨Cg a P L R at' many (ns.getD at'.toNat 0) ps ls rs H, ?_, ?_⟩
  ·walk_at "RD"
   split
   ·walk_at "AUTO"
    have hq := CS (show ((rs.getD many.toNat 0 % 2001 - 1000) % 7 - 3).natAbs ≤ 3 by omega) (show (span - 1).natAbs ≤ 2000 by omega)
    refine ⟨p, span, _, _, _, rfl, AL.updFresh (by walk_at "SAME8") hp0, ⟨?_, ?_, ?_, AO⟩, ⟨hb1, hb2, hb3, by omega, by omega, by omega, ?_⟩⟩
    ·rw [AK (Ap (o := .lst (ps.map V.int)) (by walk_at "SAT8") hn)]; walk_at "SAT8"
    ·rw [AK (Ap (o := .lst (ls.map V.int)) (by walk_at "SAT8") hn)]; walk_at "SAT8"
    ·rw [AK (Ap (o := .lst (rs.map V.int)) (by walk_at "SAT8") hn)]; walk_at "SAT8"
    ·omega
   ·exact ⟨p, span, _, _, _, rfl, (by walk_at "SAME8"), ⟨by walk_at "SAT8", by walk_at "SAT8", by walk_at "SAT8", by walk_at "SAT8"⟩, ⟨hb1, hb2, hb3, by omega, by omega, by omega, by omega⟩⟩
  clear hnear hnear2 hp0 hsp hsp2 he hs hn p H' nr hb1 hb2 hb3 span sp
  rintro σ1 H5 ⟨E, span, near, e0, e1, rfl, s5, gl, gb⟩
  obtain ⟨hb1, hb2, hb3, hb4, hb5, hb6, hb7⟩ := id gb
  walk_at "RD"
  refine ⟨by decide, fun M H6 nM s6 eM => ?_⟩
  intro U H7 nU s7 eU
  have nU5 : H5 U = none := s6.free nU
  have n0M : H M = none := s5.free nM
  refine ⟨_, rfl, many, rfl, by omega, by omega, BM (n := many.toNat) (Wg a P L R E M U at' many (ns.getD at'.toNat 0) span near H5) ⟨[], [], [], none, none, none, none, none, none, rfl, s6.trans s7, ⟨s7.get eM, .nil, eU, rfl, Nat.le_refl _, fun z => by simp [Bz], fun _ h => absurd h (by simp), by simp, fun _ h => absurd h (by simp)⟩⟩ ?_ ?_⟩
  ·rintro i σ H8 hi ⟨as, gs, kvs, x1, x2, x3, x4, x5, x6, rfl, s8, gm⟩
   have gl8 := gl.same s8
   have eP8 := gl8.eP
   have eL8 := gl8.eL
   have eR8 := gl8.eR
   have eE8 := gl8.eE
   walk_at "RD"
   walk_at "AUTO"
   generalize hp0 : near + ps.getD (0 + (i : Int)).toNat 0 % span = p0
   have q1 := Int.emod_nonneg (ps.getD (0 + (i : Int)).toNat 0) (show span ≠ 0 by omega)
   have q2 := Int.emod_lt_of_pos (ps.getD (0 + (i : Int)).toNat 0) (show 0 < span by omega)
   have hl1 : near ≤ p0 := by omega
   have hl2 : p0 < near + span := by omega
   refine ⟨_, rfl, 0 + (i : Int), rfl, by omega, by omega, BM (n := (0 + (i : Int)).toNat) (Wi a P L R E M U at' many (ns.getD at'.toNat 0) span near gs (0 + (i : Int)) p0 x4 x5 x6 H8) ⟨p0, x3, rfl, rfl, hl1, hl2, .inr ⟨?_, fun t ht => absurd ht (by omega)⟩⟩ ?_ ?_⟩
   ·rw [show p0 - near + ((0 : Nat) : Int) = p0 - near by omega, Int.emod_eq_of_lt (by omega) (by omega)]; omega
   ·rintro j σ H9 hj ⟨pl, y3, rfl, rfl, l1, l2, hor⟩
    walk_at "RD"
    refine ⟨_, GK.k (k := Sum.inl pl) gm.eU, ?_⟩
    by_cases hu' : pl ∈ gs.map G.p
    ·rw [if_pos ((gm.keys pl).mpr hu')]
     walk_at "AUTO"
     have r1 := Int.emod_nonneg (pl - near + 1) (show span ≠ 0 by omega)
     have r2 := Int.emod_lt_of_pos (pl - near + 1) (show 0 < span by omega)
     refine ⟨_, _, rfl, rfl, by omega, by omega, .inr ?_⟩
     rcases hor with z | ⟨z1, z2⟩
     ·exact absurd hu' z
     ·refine ⟨?_, fun t ht => ?_⟩
      ·rw [z1, show near + (p0 - near + (j : Int)) % span - near + 1 = (p0 - near + (j : Int)) % span + 1 by omega, Int.emod_add_emod, show p0 - near + (j : Int) + 1 = p0 - near + ((j + 1 : Nat) : Int) by omega]
      ·rcases (by omega : t < j ∨ t = j) with e | e
       ·exact z2 t e
       ·subst e; rw [← z1]; exact hu'
    ·rw [if_neg (fun z => hu' ((gm.keys pl).mp z))]
     exact ⟨pl, _, rfl, rfl, l1, l2, .inl hu'⟩
   ·rintro σ H9 ⟨pl, y3, rfl, rfl, l1, l2, hor⟩
    have hfree : pl ∉ gs.map G.p := by
     rcases hor with z | ⟨z1, z2⟩
     ·exact z
     ·intro hin
      have hlen : (gs.map G.p).length = i := by rw [List.length_map]; exact gm.len
      refine PJ (near := near) (span := span) (o := p0 - near) (used := gs.map G.p) (by rw [hlen]; omega) fun t ht => ?_
      rw [hlen] at ht
      rcases (by omega : t < i ∨ t = i) with e | e
      ·exact z2 t (by omega)
      ·subst e
       rw [show (((0 + (t : Int)).toNat : Nat) : Int) = (t : Int) by omega] at z1
       rw [← z1]; exact hin
    dsimp only
    refine Ir fun Md hM => ?_
    walk_at "RD"
    refine ⟨_, Pe.k (k := Sum.inl pl) gm.eU (by rw [PySem.sizeLine_eq]; have := gm.kl; omega), ?_⟩
    refine hM _ _ ?_
    clear hM Md
    have hMU : M ≠ U := Bv gm.eM gm.eU (by intro z; cases z)
    have s9 : AL H5 (upd H9 U (.dK (DC kvs (Sum.inl pl) (V.bl true)))) := s8.updFresh nU5
    have eM9 : upd H9 U (.dK (DC kvs (Sum.inl pl) (V.bl true))) M = some (.lst (as.map V.ref)) := by rw [AK hMU]; exact gm.eM
    have eU9 : upd H9 U (.dK (DC kvs (Sum.inl pl) (V.bl true))) U = some (.dK (DC kvs (Sum.inl pl) (V.bl true))) := AO
    have at9 := gm.at_.upd (u := .dK (DC kvs (Sum.inl pl) (V.bl true))) gm.eU (by intro ys z; cases z)
    generalize upd H9 U (.dK (DC kvs (Sum.inl pl) (V.bl true))) = HA at s9 eM9 eU9 at9 ⊢
    have glA := gl.same s9
    have ePA := glA.eP
    have eLA := glA.eL
    have eRA := glA.eR
    have eEA := glA.eE
    clear eP8 eL8 eR8 eE8 gl8
    refine Ir fun Md hM => ?_
    walk_at "RD"
    walk_at "AUTO"
    refine hM _ _ ?_
    clear hM Md
    refine Ir fun Md hM => ?_
    delta Ij
    walk_at "AUTO"
    intro TT HB f h sB eB
    walk_at "AUTO"
    refine ⟨rfl, _, _, rfl, _, _, rfl, rfl, ?_⟩
    refine hM _ _ ?_
    clear hM Md
    refine ⟨Cf [some (V.ref a), some (V.int at'), some (V.int many), some (V.int (ns.getD at'.toNat 0)), some (V.int (ns.getD at'.toNat 0 / 2 % 5)), some (V.ref P), some (V.ref L), some (V.ref R), some (V.int span), some (V.int near), some (V.ref E), some (V.ref M), some (V.ref U), some (V.int (0 + (i : Int))), some (V.int pl), y3, some (V.int (e0 * (span - 1) + (e1 - e0) * (pl - near)))] HB, ?_, ?_⟩
    ·walk_at "RD"
     split
     ·walk_at "AUTO"
      split
      ·walk_at "AUTO"
       exact ⟨_, _, rfl, rfl⟩
      ·exact ⟨_, _, rfl, rfl⟩
     ·exact ⟨_, _, rfl, rfl⟩
    rintro σ HB' ⟨f1, h1, rfl, rfl⟩
    walk_at "RD"
    have eMB := sB.get eM9
    have hff : ∃ f2 : Int, (if (if f1 < 1000 then f1 else 1000) > -1000 then if f1 < 1000 then f1 else 1000 else -1000) = f2 ∧ -1000 ≤ f2 ∧ f2 ≤ 1000 := ⟨_, rfl, by (repeat' split) <;> omega, by (repeat' split) <;> omega⟩
    obtain ⟨f2, ef2, f3, f4⟩ := hff
    rw [ef2]
    have hhh : ∃ h2 : Int, (if (if h1 < 1000 then h1 else 1000) > f2 then if h1 < 1000 then h1 else 1000 else f2) = h2 ∧ f2 ≤ h2 ∧ h2 ≤ 1000 := ⟨_, rfl, by (repeat' split) <;> omega, by (repeat' split) <;> omega⟩
    obtain ⟨h2, eh2, h3, h4⟩ := hhh
    rw [eh2]
    refine ⟨⟨_, eMB⟩, by decide, fun TP HC nC sC eC => ?_⟩
    have eMC := sC.get eMB
    have eUC := sC.get (sB.get eU9)
    have atC := (at9.same sB).same sC
    have sAll := (s9.trans sB).trans sC
    have lk := gm.kl
    have lg := gm.len
    have la := at9.len
    refine ⟨_, eMC, by rw [List.length_map, PySem.sizeLine_eq]; omega, as ++ [TP], gs ++ [⟨pl, f2, h2⟩], DC kvs (Sum.inl pl) (V.bl true), _, _, _, _, _, _, rfl, sAll.updFresh nM, ?_⟩
    have hkey : ∀ z : Int, (Bz (DC kvs (Sum.inl pl : Key) (V.bl true)) (Sum.inl z)).isSome = true ↔ z ∈ (gs ++ [⟨pl, f2, h2⟩] : List G).map G.p := fun z => by
     rw [LV, List.map_append, List.mem_append]
     by_cases e : z = pl
     ·subst e; simp
     ·rw [if_neg (fun q => e (Sum.inl.inj q)), gm.keys z]
      simp [e]
    refine ⟨by rw [AO, List.map_append]; rfl, ?_, by rw [AK (Ne.symm hMU)]; exact eUC, by rw [List.length_append, lg]; rfl, Nat.le_trans (Go ..) (by omega), hkey, fun g hg => ?_, ?_, fun g hg => ?_⟩
    ·exact (atC.snoc (a := TP) (g := ⟨pl, f2, h2⟩) eC).upd eMC (by intro ys z; cases z)
    ·rcases List.mem_append.mp hg with z | z
     ·exact gm.ok g z
     ·rw [List.mem_singleton.mp z]
      exact ⟨by show -1000 ≤ pl; omega, by show pl ≤ 1000; omega, f3, h3, h4⟩
    ·rw [List.map_append]
     exact Q5 gm.nd hfree
    ·rcases List.mem_append.mp hg with z | z
     ·exact gm.stretch g z
     ·rw [List.mem_singleton.mp z]
      exact ⟨l1, l2⟩
  ·rintro σ H8 ⟨as, gs, kvs, x1, x2, x3, x4, x5, x6, rfl, s8, gm⟩
   walk_at "RD"
   exact k M _ as gs n0M (s5.trans s8) gm.eM gm.at_ gm.len gm.ok gm.nd
theorem QN : AY ["_law_found"] ["_law_found"] (AH J7) := by walk_at "SC"
def DK : Sp := fun vs H Q _ => ∃ i : Int, vs = [.int i] ∧ Q (.bl true) H
theorem Ff (T : Tx K mg) : Ay P w K mg base CX0 1 T.Nh T.LR ["_law_found"] DK := by
 refine T.BK.F.ok QN (fun vs H Q E h => ?_) (fun cdv A outer s H vs Q E hr h => ?_)
 ·obtain ⟨i, rfl, hq⟩ := h
  rfl
 ·obtain ⟨i, rfl, hq⟩ := h
  have hu := At hr
  refine ⟨_, (AE (AI (K9 (AM CV (by rfl) T.B5 Bn (AA (pv 0) (AA (G3 (v := .ty "int") (by rfl) T.SO Pn rfl) AD))) (IJ (Pq (AM CV (by rfl) T.B5 Bn (AA (pv 0) (AA (G3 (v := .ty "bool") (by rfl) T.VV UB rfl) AD)))))))), ?_⟩
  walk_at "RD"
  refine ⟨_, .int i, true, rfl, ?_⟩
  rw [if_pos rfl]
  exact ⟨_, .int i, false, rfl, hq⟩
theorem Ip : AY ["_law_found", "_law_due", "_law_k"] ["_law_found", "_law_due"] (AH Gi) := by walk_at "SC"
def OD (K : PySem.W.Frag) : Sp := fun vs H Q _ => ∃ (x y : Addr) (xs : List Int), vs = [.ref x, .ref y] ∧ H x = some (.tup (xs.map V.int)) ∧ SqT K H y (xs.map V.int) ∧ xs.length ≤ 1000 ∧ Q (.bl true) H
def W_num (x y : Addr) (H : Hp) : Nat → St → Hp → Prop := fun i σ H' => ∃ k, σ = [some (.ref x), some (.ref y), k] ∧ H' = H
theorem N7 (T : Tx K mg) : Ay P w K mg base CX0 2 T.Kd T.Iq ["_law_found", "_law_due"] (OD K) := by
 refine T.Em.F.ok Ip (fun vs H Q E h => ?_) (fun cdv A outer s H vs Q E hr h => ?_)
 ·obtain ⟨x, y, xs, rfl, ex, ey, hl, k⟩ := h
  rfl
 ·obtain ⟨x, y, xs, rfl, ex, ey, hl, k⟩ := h
  have hu := At hr
  refine ⟨_, (AC (Ah (GY (CO (Bc (AM CV (by rfl) T.B5 Bn (AA (pv 0) (AA (G3 (v := .ty "tuple") (by rfl) T.N2 Lu rfl) AD))))) (Ey (AQ EY (AM AU (by rfl) T.A8 Ax (AA (pv 0) AD)) (AM AU (by rfl) T.A8 Ax (AA (pv 1) AD)) (AS _)))).pt (AE (AI BE))
    AV)
   (AC (BO PassesOwn.never rfl (Bo (by rfl) T.Bx (AA (AM AU (by rfl) T.A8 Ax (AA (pv 1) AD)) AD)) (AZ (i := 2) Ip.nd rfl (by walk_at "O"))
    (AE (Ah (GY (CO (Bc (AR (Ff T) (hr.mono (by decide)) (by rfl) T.BK.m T.BK.F.kp T.BK.b .nil Ad (AA (AG AT (pv 0) (pv 2) (fun _ _ => rfl)) AD)))) (Ey (AQ EY (AG AT (pv 0) (pv 2) (fun _ _ => rfl)) (AG AT (pv 1) (pv 2) (fun _ _ => rfl)) (AS _)))).pt (AE (AI BE))
      AV)))
   (AE (AI BE)))), ?_⟩
  walk_at "RD"
  walk_at "AUTO"
  refine ⟨_, rfl, _, rfl, _, Or.inr ey, ((xs.map V.int).length : Int), rfl, by rw [List.length_map]; omega, by rw [List.length_map]; omega, BM (n := (((xs.map V.int).length : Nat) : Int).toNat) (W_num x y H) ⟨none, rfl, rfl⟩ ?_ ?_⟩
  ·rintro i σ H1 hi ⟨k', rfl, rfl⟩
   rw [List.length_map] at hi
   delta DK
   walk_at "AUTO"
   exact ⟨_, rfl, rfl⟩
  ·rintro σ H1 ⟨k', rfl, rfl⟩
   walk_at "RD"
   exact k
theorem CP : AY ["_law_stands", "_law_deed_here", "_law_word", "_law_place", "_law_one", "_law_two", "_law_foot", "_law_head"] ["_law_stands", "_law_deed_here"] (AH J9) := by walk_at "SC"
def Py (K : PySem.W.Frag) : Sp := fun vs H Q _ => ∃ (d q : Addr) (w : Str) (p x y : Int) (gs : List G), vs = [.ref d, .ref q] ∧ SqT K H q [.str w, .int p, .int x, .int y] ∧ BB H d gs ∧ ∀ D H', H D = none → AL H H' → H' D = some (.tup [.int p, .int (BS w gs p x y).1, .int (BS w gs p x y).2]) → Q (.ref D) H'
theorem IS (T : Tx K mg) : Ay P w K mg base CX0 1 T.NQ T.MD ["_law_stands", "_law_deed_here"] (Py K) := by
 refine T.Bl.F.ok CP (fun vs H Q E h => ?_) (fun cdv A outer s H vs Q E hr h => ?_)
 ·obtain ⟨d, q, w, p, x, y, gs, rfl, hq, hd, k⟩ := h
  rfl
 ·obtain ⟨d, q, w, p, x, y, gs, rfl, hq, hd, k⟩ := h
  have hu := At hr
  refine ⟨_, (AC (Fc (pv 1) (Fm (n := 4) rfl (Ao (AZ (i := 2) CP.nd rfl (by walk_at "O")) (Ao (AZ (i := 3) CP.nd rfl (by walk_at "O")) (Ao (AZ (i := 4) CP.nd rfl (by walk_at "O")) (Ao (AZ (i := 5) CP.nd rfl (by walk_at "O")) Cy))))))
   (AC (Ah (AQ A5 (pv 2) Af (AS _)) (AE (AI (Av (AA (pv 3) (AA (pv 4) (AA (pv 5) AD))))))
    AV)
   (AC (Fc (Se hu (pv 0) (pv 3) (Av (AA AB (AA AB AD))) ⟨rfl, rfl, rfl, rfl⟩) (Fm (n := 2) rfl (Ao (AZ (i := 6) CP.nd rfl (by walk_at "O")) (Ao (AZ (i := 7) CP.nd rfl (by walk_at "O")) Cy))))
   (AC (Ah (AQ A5 (pv 2) Af (AS _)) (AE (AI (Av (AA (pv 3) (AA (AF Al (pv 6) (pv 4)) (AA (AF Al (pv 7) (pv 5)) AD))))))
    AV)
   (AC (Ah (AQ A5 (pv 2) Af (AS _)) (AE (AI (Av (AA (pv 3) (AA (AF Am (pv 6) (pv 4)) (AA (AF Am (pv 7) (pv 5)) AD))))))
    AV)
   (AE (AI (Av (AA (pv 3) (AA (pv 6) (AA (pv 7) AD))))))))))), ?_⟩
  unfold BS at k
  refine ⟨_, rfl, q, _, rfl, hq, rfl, _, _, rfl, _, _, rfl, _, _, rfl, _, _, rfl, rfl, ?_⟩
  dsimp only
  walk_at "Q"
  walk_at "RD"
  by_cases h1 : w = "put"
  ·rw [if_pos h1] at k
   rw [if_pos (decide_eq_true h1)]
   exact ⟨by decide, k⟩
  rw [if_neg h1] at k
  rw [if_neg (fun z => h1 (of_decide_eq_true z))]
  walk_at "NX"
  walk_at "Q"
  walk_at "RD"
  refine ⟨hd.isD, by decide, fun z0 H1 n1 s1 e1 => ?_⟩
  obtain ⟨o, gt, hn, hs⟩ := (hd.same s1).get p
  have hv : ∃ a f h, o.getD (V.ref z0) = V.ref a ∧ H1 a = some (.tup [.int f, .int h]) ∧ (A9 gs p).elim 0 G.f = f ∧ (A9 gs p).elim 0 G.h = h := by
   cases hg : A9 gs p with
   | none => rw [hn hg]; exact ⟨z0, 0, 0, rfl, e1, rfl, rfl⟩
   | some g => obtain ⟨a, rfl, ea⟩ := hs g hg; exact ⟨a, g.f, g.h, rfl, ea, rfl, rfl⟩
  obtain ⟨a, f, h, ea, et, ef, eh⟩ := hv
  rw [ef, eh] at k
  refine ⟨o, gt, a, ea, _, SqT.of et, rfl, _, _, rfl, _, _, rfl, rfl, ?_⟩
  walk_at "NX"
  walk_at "Q"
  walk_at "RD"
  by_cases h2 : w = "lift"
  ·rw [if_pos h2] at k
   rw [if_pos (decide_eq_true h2)]
   first | exact ⟨by decide, fun D H' n s e => k D H' (s1.free n) (s1.trans s) e⟩ | exact ⟨_, rfl, _, rfl, by decide, fun D H' n s e => k D H' (s1.free n) (s1.trans s) e⟩
  rw [if_neg h2] at k
  rw [if_neg (fun z => h2 (of_decide_eq_true z))]
  walk_at "NX"
  walk_at "Q"
  walk_at "RD"
  by_cases h3 : w = "sink"
  ·rw [if_pos h3] at k
   rw [if_pos (decide_eq_true h3)]
   first | exact ⟨by decide, fun D H' n s e => k D H' (s1.free n) (s1.trans s) e⟩ | exact ⟨_, rfl, _, rfl, by decide, fun D H' n s e => k D H' (s1.free n) (s1.trans s) e⟩
  rw [if_neg h3] at k
  rw [if_neg (fun z => h3 (of_decide_eq_true z))]
  walk_at "NX"
  walk_at "RD"
  exact ⟨by decide, fun D H' n s e => k D H' (s1.free n) (s1.trans s) e⟩
theorem By : AY ["_law_stands", "_law_past", "_law_deed_here", "_law_word", "_law_place", "_law_one", "_law_two", "_law_gate"] ["_law_stands", "_law_past", "_law_deed_here"] (AH GQ) := by walk_at "SC"
def OH {K : PySem.W.Frag} {mg : Str → Option Value} (T : Tx K mg) : Sp := fun vs H Q _ => ∃ (b S P : Addr) (ow : List Addr) (gs : List G) (past : List (List G)) (D L q : Addr) (w : Str) (p x y : Int), vs = [.ref D, .ref L, .ref q] ∧ SqT K H q [.str w, .int p, .int x, .int y] ∧ Wd T.AW H b S P ow gs past D L ∧ Wrd w ∧ ∀ H', AL H H' → Q (.str (SR (Be w gs past p x y))) H'
theorem Nr (T : Tx K mg) : Ay P w K mg base CX0 2 T.Kc T.JP ["_law_stands", "_law_past", "_law_deed_here"] (OH T) := by
 refine T.Ee.F.ok By (fun vs H Q E h => ?_) (fun cdv A outer s H vs Q E hr h => ?_)
 ·obtain ⟨b, S, P, ow, gs, past, D, L, q, w, p, x, y, rfl, hq, hw, wd, k⟩ := h
  rfl
 ·obtain ⟨b, S, P, ow, gs, past, D, L, q, w, p, x, y, rfl, hq, hw, wd, k⟩ := h
  have hu := At hr
  refine ⟨_, (AC (Fc (pv 2) (Fm (n := 4) rfl (Ao (AZ (i := 3) By.nd rfl (by walk_at "O")) (Ao (AZ (i := 4) By.nd rfl (by walk_at "O")) (Ao (AZ (i := 5) By.nd rfl (by walk_at "O")) (Ao (AZ (i := 6) By.nd rfl (by walk_at "O")) Cy))))))
   (AC (Ah (AQ A5 (pv 3) Af (AS _)) (AC (Ah (AQ Hz (pv 4) AB (AS _)) (AE (AI Af))
      AV)
     (AE (AI (AG AN (An (AA Af (AA Af AD))) (G9 NF (by rfl) T.SO Pn (AA (BY GB (pv 4) (AM AU (by rfl) T.A8 Ax (AA (pv 1) AD)) (AS _)) AD)) (fun _ _ => rfl)))))
    AV)
   (AC (Ah (De (AQ A5 (pv 3) Af (AS _)) (C1 (P7 (Sa hu (pv 4) (pv 0))))).pt (AE (AI Af))
    AV)
   (Bt (Ah (De (AQ EY (pv 3) Af (AS _)) (C1 (P7 (Rg hu (pv 4) (pv 0))))).pt (AE (AI Af))
    AV)
   (AC (AJ (i := 7) By.nd rfl (by walk_at "O") (AR (IS T) (hr.mono (by decide)) (by rfl) T.Bl.m T.Bl.F.kp T.Bl.b .nil Ad (AA (pv 0) (AA (pv 2) AD))))
   (AC (Ah (AQ GB (AG AT (pv 7) AB (fun _ _ => rfl)) (AG AT (pv 7) AB (fun _ _ => rfl)) (AS _)) (AE (AI Af))
    AV)
   (AC (Ah (AQ GB (AM (RZ (by rfl)) (by rfl) T.Pa Nz (AA (AM ED (by rfl) T.Lz IG (AA (AG AT (pv 7) AB (fun _ _ => rfl)) AD)) (AA (AM ED (by rfl) T.Lz IG (AA (AG AT (pv 7) AB (fun _ _ => rfl)) AD)) (AA (AM ED (by rfl) T.Lz IG (AA (AG AT (pv 7) AB (fun _ _ => rfl)) AD)) AD)))) AB (AS _)) (AE (AI Af))
    AV)
   (AC (Ah (De (AQ A5 (pv 3) Af (AS _)) (C1 (AQ Qo (AM Ju (by rfl) T.A8 Ax (AA (pv 0) AD)) AB (AS _)))).pt (AE (AI Af))
    AV)
   (AC (Ah (AQ Qo (AM AU (by rfl) T.A8 Ax (AA (pv 1) AD)) AB (AS _)) (AE (AI Af))
    AV)
   (AE (AI Af))))))))))), ?_⟩
  obtain ⟨o, gt, hn, hs⟩ := hw.dk.get p
  have ho := O3 (H := H) (D := D) hn hs
  obtain ⟨xs, eL, lL⟩ := hw.plen
  obtain ⟨kvs, eD, lD⟩ := hw.dk.len
  refine ⟨_, rfl, q, _, rfl, hq, rfl, _, _, rfl, _, _, rfl, _, _, rfl, _, _, rfl, rfl, ?_⟩
  dsimp only
  walk_at "Q"
  walk_at "RD"
  by_cases nb : w = "back"
  ·rw [if_pos (decide_eq_true nb)]
   unfold Be JY at k
   rw [if_pos nb] at k
   by_cases h1 : p < 1
   ·rw [if_pos h1] at k
    rw [if_pos (decide_eq_true h1)]
    exact k _ (AL.refl _)
   rw [if_neg h1] at k
   rw [if_neg (fun z => h1 (of_decide_eq_true z))]
   refine ⟨by decide, fun z0 H1 n1 s1 e1 => ⟨_, .inl (SqL.of (s1.get eL)), _, SqL.of e1, ?_⟩⟩
   rw [lL]
   by_cases h2 : (past.length : Int) < p
   ·rw [if_pos h2] at k
    rw [if_pos (decide_eq_true h2)]
    exact ⟨_, rfl, k _ s1⟩
   ·rw [if_neg h2] at k
    rw [if_neg (fun z => h2 (of_decide_eq_true z))]
    exact ⟨_, rfl, k _ s1⟩
  rw [if_neg (fun z => nb (of_decide_eq_true z))]
  walk_at "NX"
  walk_at "RD"
  have hd1 := RL (gs := gs) (past := past) (p := p) (x := x) (y := y) wd nb
  refine Th gt (fun hp ho' => ?_) (fun hB => ?_)
  ·rw [ho] at ho'
   rw [hd1.1 hp (of_decide_eq_true ho')] at k
   exact k _ (AL.refl _)
  refine ⟨fun σ' H' => σ' = [some (.ref D), some (.ref L), some (.ref q), some (.str w), some (.int p), some (.int x), some (.int y), none] ∧ H' = H ∧ (w = "put" → p ∉ Aw gs) ∧ (w ≠ "put" → p ∈ Aw gs), ?_, ?_⟩
  ·walk_at "RD"
   by_cases hp : w = "put"
   ·rw [if_neg (by simp [hp])]
    exact ⟨fun z => by have := hB hp; rw [ho] at this; exact of_decide_eq_false this, fun z => absurd hp z⟩
   ·rw [if_pos (by simp [hp])]
    refine ⟨o, gt, ?_⟩
    rw [ho]
    by_cases hm : p ∈ Aw gs
    ·rw [if_neg (by simp [hm])]
     exact ⟨fun z => absurd z hp, fun _ => hm⟩
    ·rw [if_pos (by simp [hm])]
     rw [hd1.2 hp hm] at k
     exact k _ (AL.refl _)
  rintro σ' H' ⟨rfl, rfl, t1, t2⟩
  have de := Qd (past := past) (x := x) (y := y) wd nb t1 t2 hw.bch.std
  rw [de] at k
  walk_at "Q"
  walk_at "RD"
  refine ⟨D, q, w, p, x, y, gs, rfl, hq, hw.dk, fun g H1 n1 s1 e1 => ?_⟩
  walk_at "NX"
  generalize (BS w gs p x y).1 = wf at *
  generalize (BS w gs p x y).2 = wh at *
  walk_at "RD"
  walk_at "AUTO"
  unfold Dr Df at k
  by_cases h1 : wh < wf
  ·rw [if_pos h1] at k
   rw [if_pos (decide_eq_true h1)]
   exact k _ s1
  rw [if_neg h1] at k
  rw [if_neg (fun z => h1 (of_decide_eq_true z))]
  refine ⟨_, SqT.of e1, _, rfl, _, rfl, _, SqT.of e1, _, rfl, _, rfl, _, SqT.of e1, _, rfl, _, rfl, fun m hm => ?_⟩
  have hm1 := hm 1000
  by_cases h2 : InB p ∧ InB wf ∧ InB wh
  ·have hle : m ≤ 1000 := hm1.mpr ⟨by split <;> omega, by split <;> omega, by split <;> omega⟩
   rw [if_neg (fun z => by have := of_decide_eq_true z; omega)]
   rw [if_pos h2] at k
   have tail : (∀ X, AL H' X → Q (.str (SR (if 300 ≤ past.length then some .deeds else none))) X) → ∃ x, (SqL K H1 L x ∨ SqT K H1 L x) ∧ if decide (300 ≤ (x.length : Int)) = true then Q (V.str (Str.ofString "deeds full")) H1 else Q (V.str (Str.ofString "")) H1 := fun k => by
    refine ⟨_, .inl (SqL.of (s1.get eL)), ?_⟩
    rw [lL]
    by_cases h5 : 300 ≤ past.length
    ·rw [if_pos h5] at k
     rw [if_pos (decide_eq_true (by omega))]
     exact k _ s1
    ·rw [if_neg h5] at k
     rw [if_neg (fun z => h5 (by have := of_decide_eq_true z; omega))]
     exact k _ s1
   by_cases h3 : w = "put"
   ·rw [if_pos (decide_eq_true h3)]
    refine ⟨kvs, s1.get eD, ?_⟩
    rw [lD]
    by_cases h4 : 40 ≤ gs.length
    ·rw [if_pos ⟨h3, h4⟩] at k
     rw [if_pos (decide_eq_true (by omega))]
     exact k _ s1
    ·rw [if_neg (fun z => h4 z.2)] at k
     rw [if_neg (fun z => h4 (by have := of_decide_eq_true z; omega))]
     exact tail k
   ·rw [if_neg (fun z => h3 z.1)] at k
    rw [if_neg (fun z => h3 (of_decide_eq_true z))]
    exact tail k
  ·rw [if_neg h2] at k
   rw [if_pos (decide_eq_true (by
    by_cases z : 1000 < m
    ·exact z
    ·exfalso
     apply h2
     obtain ⟨q1, q2, q3⟩ := hm1.mp (by omega)
     refine ⟨⟨?_, ?_⟩, ⟨?_, ?_⟩, ?_, ?_⟩ <;> (revert q1 q2 q3; split <;> split <;> split <;> omega)))]
   exact k _ s1
theorem BN : AY ["_law_beach", "_law_deed_here", "_law_word", "_law_place", "_law_one", "_law_two", "_law_told_here"] ["_law_beach", "_law_deed_here"] (AH LQ) := by walk_at "SC"
def Ry {K : PySem.W.Frag} {mg : Str → Option Value} (T : Tx K mg) : Sp := fun vs H Q _ => ∃ (b S P : Addr) (ow : List Addr) (gs : List G) (past : List (List G)) (q : Addr) (w : Str) (p x y : Int), vs = [.ref b, .ref q] ∧ SqT K H q [.str w, .int p, .int x, .int y] ∧ Bch T.AW H b S P ow gs past ∧ Wrd w ∧ (∀ e, Be w gs past p x y = some e → ∀ D H', H D = none → AL H H' → H' D = some (.lst [.bl false, .str (SS e)]) → Q (.ref D) H') ∧ (Be w gs past p x y = none → ∀ D H' S' P' ow' v, H D = none → Kp b P H H' → Bch T.AW H' b S' P' ow' (Eb w gs past p x y) (JO w gs past p) → (∀ a ∈ ow', a ∈ ow ∨ H a = none) → (∃ u, H' P = some u) → D ∉ ow' → H' D = some (.lst [.bl true, v]) → (w = "back" → v = .int ((JO w gs past p).length : Int)) → (w ≠ "back" → ∃ t, v = .ref t ∧ H' t = some (.tup [.int p, .int (BS w gs p x y).1, .int (BS w gs p x y).2])) → Q (.ref D) H')
theorem Ri (T : Tx K mg) : Ay P w K mg base CX0 4 T.PK T.NN ["_law_beach", "_law_deed_here"] (Ry T) := by
 refine T.Iv.F.ok BN (fun vs H Q E h => ?_) (fun cdv A outer s H vs Q E hr h => ?_)
 ·obtain ⟨b, S, P, ow, gs, past, q, w, p, x, y, rfl, hq, hb, wd, kE, k⟩ := h
  rfl
 ·obtain ⟨b, S, P, ow, gs, past, q, w, p, x, y, rfl, hq, hb, wd, kE, k⟩ := h
  have hu := At hr
  refine ⟨_, (AC (Fc (pv 1) (Fm (n := 4) rfl (Ao (AZ (i := 2) BN.nd rfl (by walk_at "O")) (Ao (AZ (i := 3) BN.nd rfl (by walk_at "O")) (Ao (AZ (i := 4) BN.nd rfl (by walk_at "O")) (Ao (AZ (i := 5) BN.nd rfl (by walk_at "O")) Cy))))))
   (AC (AJ (i := 6) BN.nd rfl (by walk_at "O") Af)
   (Bt (Ta rfl rfl (fun _ _ _ hp => (AC (Ah (AQ A5 (pv 2) Af (AS _)) (AE (AI (An (AA BE (AA (GP (pv 0) T.Ag T.Gc.mt (OF T) (hr.mono (by decide)) T.Gc.b .nil hp (AA (pv 3) (AA (pv 4) (AA (pv 5) AD)))) AD)))))
           AV)
      (AC (Ah (AQ A5 (pv 2) Af (AS _)) (AE (AI (An (AA BE (AA (GP (pv 0) T.Ag T.Fs.mt (Mh T) (hr.mono (by decide)) T.Fs.b .nil hp (AA (pv 3) AD)) AD)))))
       AV)
      (AC (Ah (AQ A5 (pv 2) Af (AS _)) (AE (AI (An (AA BE (AA (GP (pv 0) T.Ag T.Ct.mt (Hu T) (hr.mono (by decide)) T.Ct.b .nil hp (AA (pv 3) (AA (pv 4) (AA (pv 5) AD)))) AD)))))
       AV)
      (AC (Ah (AQ A5 (pv 2) Af (AS _)) (AE (AI (An (AA BE (AA (GP (pv 0) T.Ag T.Fg.mt (MS T) (hr.mono (by decide)) T.Fg.b .nil hp (AA (pv 3) (AA (pv 4) (AA (pv 5) AD)))) AD)))))
       AV)
      (AC (Ah (De (AQ A5 (pv 3) AB (AS _)) (C1 (AQ A5 (pv 4) AB (AS _)))).pt (AE (AI (An (AA BE (AA (NH (pv 0) T.Ag T.B3.mt (Ha T) (hr.mono (by decide)) T.B3.bd.choose_spec.2 T.B3.bd.choose_spec.1 hp) AD)))))
       AV)
      (AE (AI (An (AA BE (AA (GP (pv 0) T.Ag T.B3.mt (Ha T) (hr.mono (by decide)) T.B3.b .nil hp (AA (pv 3) AD)) AD)))))))))))
    (PHs.cons (by rfl) T.PH (by decide) (fun _ _ => (AE (AJ (i := 6) BN.nd rfl (by walk_at "O") Af))) (PHs.cons (by rfl) T.Qj (by decide) (fun _ _ => (AE (AJ (i := 6) BN.nd rfl (by walk_at "O") Af))) (PHs.cons (by rfl) T.Jl (by decide) (fun _ _ => (AE (AJ (i := 6) BN.nd rfl (by walk_at "O") Af))) (PHs.cons (by rfl) T.FB (by decide) (fun _ _ => (AE (AJ (i := 6) BN.nd rfl (by walk_at "O") Af))) (PHs.cons (by rfl) T.Km (by decide) (fun _ _ => (AE (AJ (i := 6) BN.nd rfl (by walk_at "O") Af))) (PHs.cons (by rfl) T.Kg (by decide) (fun _ _ => (AE (AJ (i := 6) BN.nd rfl (by walk_at "O") Af))) (PHs.cons (by rfl) T.Hn (by decide) (fun _ _ => (AE (AJ (i := 6) BN.nd rfl (by walk_at "O") Af))) PHs.nil))))))))
   (AE (AI (An (AA BE (AA (pv 6) AD)))))))), ?_⟩
  obtain ⟨dx, eb⟩ := hb.at_
  refine ⟨_, rfl, q, _, rfl, hq, rfl, _, _, rfl, _, _, rfl, _, _, rfl, _, _, rfl, rfl, ?_⟩
  walk_at "RD"
  refine ⟨fun σ' H' => ∃ e, Be w gs past p x y = some e ∧ AL H H' ∧ σ' = [some (.ref b), some (.ref q), some (.str w), some (.int p), some (.int x), some (.int y), some (.str (SS e))], ?_, ?_⟩
  ·refine Pi fun N hN => ?_
   have hE : ∀ e H', Be w gs past p x y = some e → Ia e = true → AL H H' → N (T.err e) [some (V.ref b), some (V.ref q), some (V.str w), some (V.int p), some (V.int x), some (V.int y), some (V.str (Str.ofString ""))] H' := fun e H' he hd s => by
    refine hN _ _ _ ?_
    cases e <;> first
     | exact absurd hd Bool.false_ne_true
     | (simp only [tHs, Tx.err, T.GD, T.GO, T.Dw, T.Dc, T.Ea, T.EM, T.DY, T.EO, T.Gu, T.HR, T.EZ, T.Dq, T.Es, T.Ek, T.Dp, T.Er, T.Dv, T.EG, T.Cc, T.CG, T.Cv, T.C0, T.CH, T.C2, T.Da, T.Dy, T.CD, T.B9, T.CW, T.CU, T.B6, T.Cj, T.EF, T.Ed, T.Cq, T.Ch, T.DA, T.C8, T.Cd, T.C4, T.EN, T.En, T.Cu, T.Ck, T.C7, T.DB, T.Co, T.C9, T.DZ, T.Du, T.CJ, T.B7, T.Cm, T.Cb, T.B8, T.Ca, T.EJ, T.Ef, T.Cp, T.CY, T.C3, T.C5, T.CZ, T.C6, Option.some.injEq, exists_eq_left', if_true, Bool.false_eq_true, if_false, LD, GC, tC, List.set_cons_zero, List.set_cons_succ]
        exact ⟨_, he, s, rfl⟩)
   clear hN
   delta N3
   by_cases h_put : w = "put"
   ·rw [if_pos (decide_eq_true h_put)]
    refine ⟨dx, _, eb, rfl, b, S, P, ow, gs, past, p, x, y, rfl, hb, fun e he H' s => hE e H' ((J0 h_put).trans he) (Tz he) s, fun  hno H' S' ow' D kp hb' ho eD => ⟨by decide, fun D2 H2 n2 s2 e2 => ?_⟩⟩
    have nb : w ≠ "back" := by rw [h_put]; decide
    refine k ((J0 h_put).trans hno) D2 H2 S' P ow' _ (kp.free hb'.live.1 hb'.live.2 n2) (kp.trans (Kp.of s2)) ?_ ho (hb'.live.2.imp fun _ z => s2.get z) (hb'.off n2) e2 (fun z => absurd z nb) fun _ => ⟨D, rfl, ?_⟩
    ·rw [FY nb (by rw [h_put]; decide), FK nb, KG h_put]
     exact hb'.same s2
    ·rw [KG h_put]
     exact s2.get (eD)
   rw [if_neg (fun z => h_put (of_decide_eq_true z))]
   by_cases h_take : w = "take"
   ·rw [if_pos (decide_eq_true h_take)]
    refine ⟨dx, _, eb, rfl, b, S, P, ow, gs, past, p, rfl, hb, fun e he H' s => hE e H' ((IL h_take).trans he) (SM he) s, fun g hg hno H' S' ow' D kp hb' ho eD => ⟨by decide, fun D2 H2 n2 s2 e2 => ?_⟩⟩
    have nb : w ≠ "back" := by rw [h_take]; decide
    refine k ((IL h_take).trans hno) D2 H2 S' P ow' _ (kp.free hb'.live.1 hb'.live.2 n2) (kp.trans (Kp.of s2)) ?_ ho (hb'.live.2.imp fun _ z => s2.get z) (hb'.off n2) e2 (fun z => absurd z nb) fun _ => ⟨D, rfl, ?_⟩
    ·rw [MA h_take, FK nb]
     exact hb'.same s2
    ·rw [QQ h_take hg]
     exact s2.get ((Ce hg).2 ▸ eD)
   rw [if_neg (fun z => h_take (of_decide_eq_true z))]
   by_cases h_lift : w = "lift"
   ·rw [if_pos (decide_eq_true h_lift)]
    refine ⟨dx, _, eb, rfl, b, S, P, ow, gs, past, p, x, y, rfl, hb, fun e he H' s => hE e H' ((LY h_lift).trans he) (O4 he) s, fun g hg hno H' S' ow' D kp hb' ho eD => ⟨by decide, fun D2 H2 n2 s2 e2 => ?_⟩⟩
    have nb : w ≠ "back" := by rw [h_lift]; decide
    refine k ((LY h_lift).trans hno) D2 H2 S' P ow' _ (kp.free hb'.live.1 hb'.live.2 n2) (kp.trans (Kp.of s2)) ?_ ho (hb'.live.2.imp fun _ z => s2.get z) (hb'.off n2) e2 (fun z => absurd z nb) fun _ => ⟨D, rfl, ?_⟩
    ·rw [FY nb (by rw [h_lift]; decide), FK nb, MC h_lift hg]
     exact hb'.same s2
    ·rw [MC h_lift hg]
     exact s2.get (eD)
   rw [if_neg (fun z => h_lift (of_decide_eq_true z))]
   by_cases h_sink : w = "sink"
   ·rw [if_pos (decide_eq_true h_sink)]
    refine ⟨dx, _, eb, rfl, b, S, P, ow, gs, past, p, x, y, rfl, hb, fun e he H' s => hE e H' ((Ly h_sink).trans he) (O4 he) s, fun g hg hno H' S' ow' D kp hb' ho eD => ⟨by decide, fun D2 H2 n2 s2 e2 => ?_⟩⟩
    have nb : w ≠ "back" := by rw [h_sink]; decide
    refine k ((Ly h_sink).trans hno) D2 H2 S' P ow' _ (kp.free hb'.live.1 hb'.live.2 n2) (kp.trans (Kp.of s2)) ?_ ho (hb'.live.2.imp fun _ z => s2.get z) (hb'.off n2) e2 (fun z => absurd z nb) fun _ => ⟨D, rfl, ?_⟩
    ·rw [FY nb (by rw [h_sink]; decide), FK nb, L5 h_sink hg]
     exact hb'.same s2
    ·rw [L5 h_sink hg]
     exact s2.get (eD)
   rw [if_neg (fun z => h_sink (of_decide_eq_true z))]
   have hw := wd.last h_put h_take h_lift h_sink
   have back : ∀ n, n = p → HP T [V.ref b, V.int n] H (fun v H1 => 2 ≤ sizeLine ∧ ∀ (D : Addr) (H' : Hp), H1 D = none → AL H1 H' → H' D = some (HO.lst [V.bl true, v]) → Q (V.ref D) H') (fun cls _ H' => N cls [some (V.ref b), some (V.ref q), some (V.str w), some (V.int p), some (V.int x), some (V.int y), some (V.str (Str.ofString ""))] H') := fun n hn => by
    subst hn
    refine ⟨b, S, P, ow, gs, past, n, rfl, hb, fun e he => hE e H ((IT hw).trans he) (TF he) (AL.refl _), fun hno H' S' P' ow' kp hb' ho => ⟨by decide, fun D2 H2 n2 s2 e2 => ?_⟩⟩
    have kp' : Kp b P H H' := fun a u h1 _ e => kp a u h1 h1 e
    obtain ⟨ps, eP, _⟩ := hb.pa
    have neP : P ≠ b := hb.neb eP fun _ _ _ z => by cases z
    have lP : ∃ u, H' P = some u := ⟨_, kp P _ neP neP eP⟩
    have eG : Eb w gs past n x y = past.getD (past.length - n.toNat) [] := if_pos hw
    have eP' : JO w gs past n = past.take (past.length - n.toNat) := if_pos hw
    refine k ((IT hw).trans hno) D2 H2 S' P' ow' _ (kp'.free hb'.live.1 lP n2) (kp'.trans (Kp.of s2)) ?_ ho (lP.imp fun _ z => s2.get z) (hb'.off n2) e2 (fun _ => by rw [eP']) fun z => absurd hw z
    rw [eG, eP']
    exact hb'.same s2
   by_cases h5 : p = 1
   ·rw [if_pos (decide_eq_true h5)]
    by_cases h6 : x = 1
    ·rw [if_pos (decide_eq_true h6)]
     exact ⟨dx, _, eb, rfl, back 1 h5.symm⟩
    ·rw [if_neg (fun z => h6 (of_decide_eq_true z))]
     exact ⟨dx, _, eb, rfl, back p rfl⟩
   ·rw [if_neg (fun z => h5 (of_decide_eq_true z))]
    exact ⟨dx, _, eb, rfl, back p rfl⟩
  ·rintro σ' H' ⟨e, he, s, rfl⟩
   walk_at "RD"
   exact ⟨by decide, fun D H2 n2 s2 e2 => kE e he D H2 (s.free n2) (s.trans s2) e2⟩
theorem Ci : AY ["_law_stands", "_law_past", "_law_deed_here", "_law_word", "_law_place", "_law_one", "_law_two", "_law_kept_here", "_law_count", "_law_gate"] ["_law_stands", "_law_past", "_law_deed_here"] (AH LZ) := by walk_at "SC"
def R9 {K : PySem.W.Frag} {mg : Str → Option Value} (T : Tx K mg) : Sp := fun vs H Q _ => ∃ (b S P : Addr) (ow : List Addr) (gs' gs : List G) (past' past : List (List G)) (D L q : Addr) (w : Str) (p x y : Int), vs = [.ref D, .ref L, .ref q] ∧ SqT K H q [.str w, .int p, .int x, .int y] ∧ Bch T.AW H b S P ow (Eb w gs past p x y) (JO w gs past p) ∧ Std gs ∧ past.length ≤ 300 ∧ BB H D gs ∧ (∃ ds : List Addr, H L = some (.lst (ds.map V.ref)) ∧ Paired (BB H) ds past ∧ D ∉ ds) ∧ L ∉ ow ∧ Wrd w ∧ Be w gs past p x y = none ∧ ∀ H', Wd T.AW H' b S P ow (Eb w gs past p x y) (JO w gs past p) D L → Kept (L :: ow) H H' (L :: ow) → Q .non H'
theorem Rx (T : Tx K mg) : Ay P w K mg base CX0 2 T.PU T.NA ["_law_stands", "_law_past", "_law_deed_here"] (R9 T) := by
 refine T.Ix.F.ok Ci (fun vs H Q E h => ?_) (fun cdv A outer s H vs Q E hr h => ?_)
 ·obtain ⟨b, S, P, ow, gs', gs, past', past, D, L, q, w, p, x, y, rfl, hq, hb, sd, l3, hd, ⟨ds, eL, pr, hds⟩, hL, wd, hno, k⟩ := h
  rfl
 ·obtain ⟨b, S, P, ow, gs', gs, past', past, D, L, q, w, p, x, y, rfl, hq, hb, sd, l3, hd, ⟨ds, eL, pr, hds⟩, hL, wd, hno, k⟩ := h
  have hu := At hr
  refine ⟨_, (AC (Fc (pv 2) (Fm (n := 4) rfl (Ao (AZ (i := 3) Ci.nd rfl (by walk_at "O")) (Ao (AZ (i := 4) Ci.nd rfl (by walk_at "O")) (Ao (AZ (i := 5) Ci.nd rfl (by walk_at "O")) (Ao (AZ (i := 6) Ci.nd rfl (by walk_at "O")) Cy))))))
   (AC (Ah (AQ A5 (pv 3) Af (AS _)) (AC (AJ (i := 7) Ci.nd rfl (by walk_at "O") (AG AN (pv 1) (AF Am (AM AU (by rfl) T.A8 Ax (AA (pv 1) AD)) (pv 4)) (fun _ _ => rfl)))
     (AC (BX (SL PySem.F.plainAttrs_dict PySem.F.slot_dict_clear PySem.F.type_dict_clear Rt (pv 0)))
     (AC (BX (Uh PySem.F.plainAttrs_dict PySem.F.slot_dict_update PySem.F.type_dict_update T5 (pv 0) (AA (pv 7) AD)))
     (AC (BO PassesOwn.never rfl (Bo (by rfl) T.Bx (AA (pv 4) AD)) (AZ (i := 8) Ci.nd rfl (by walk_at "O"))
      (AE (BX (SL PySem.F.plainAttrs_list PySem.F.slot_list_pop PySem.F.type_list_pop XZ (pv 1)))))
     (AE T7)))))
    AV)
   (AC (AJ (i := 9) Ci.nd rfl (by walk_at "O") (AR (IS T) (hr.mono (by decide)) (by rfl) T.Bl.m T.Bl.F.kp T.Bl.b .nil Ad (AA (pv 0) (AA (pv 2) AD))))
   (AC (BX (DN (pv 1) (G9 P8 (by rfl) T.Wm UZ (AA (pv 0) AD))))
   (AE (Ah (AQ A5 (pv 3) Af (AS _)) (AE (BX (Sd (pv 0) (pv 4) ⟨rfl, rfl, rfl, rfl⟩)))
    (AE (RE hu (pv 0) (pv 4) (Av (AA (AG AT (pv 9) AB (fun _ _ => rfl)) (AA (AG AT (pv 9) AB (fun _ _ => rfl)) AD))) rfl)))))))), ?_⟩
  obtain ⟨kvs, ks, eD, hd2⟩ := hd.at_
  have lds := Paired.length pr
  refine ⟨_, rfl, q, _, rfl, hq, rfl, _, _, rfl, _, _, rfl, _, _, rfl, _, _, rfl, rfl, ?_⟩
  dsimp only
  walk_at "Q"
  walk_at "RD"
  by_cases hw : w = "back"
  ·rw [if_pos (decide_eq_true hw)]
   rw [IT hw] at hno
   unfold JY at hno
   have h1 : 1 ≤ p := by
    by_cases z : p < 1
    ·rw [if_pos z] at hno; cases hno
    ·omega
   have h2 : p ≤ past.length := by
    by_cases z : (past.length : Int) < p
    ·rw [if_neg (by omega), if_pos z] at hno; cases hno
    ·omega
   have hj : past.length - p.toNat < past.length := by omega
   have ej : (((ds.map V.ref).length : Nat) : Int) - p = ((past.length - p.toNat : Nat) : Int) := by rw [List.length_map]; omega
   have eG : Eb w gs past p x y = past[past.length - p.toNat] := by
    unfold Eb
    rw [if_pos hw, List.getD_eq_getElem?_getD, List.getElem?_eq_getElem hj]
    rfl
   have eP : JO w gs past p = past.take (past.length - p.toNat) := if_pos hw
   obtain ⟨dj, hdj, kj⟩ := Paired.get pr (List.getElem?_eq_getElem hj)
   have hdD : D ≠ dj := fun z => hds (by rw [z]; exact List.mem_of_getElem? hdj)
   obtain ⟨kvj, _, eJ, _⟩ := kj.at_
   refine ⟨_, .inl (SqL.of eL), _, SqL.of eL, V.ref dj, ?_, ?_⟩
   ·rw [ej]
    exact DV hdj
   delta WZ tBM Qy Uc
   have DnL : D ≠ L := Bv eD eL fun z => by cases z
   refine ⟨Uf eD, ⟨_, eD⟩, Uf AO, hdD, AO, kvj, (AK hdD.symm).trans eJ, ?_⟩
   have k2 : DL D L H (upd (upd H D (.dK [])) D (.dK kvj)) := DL.updD.trans DL.updD
   have eL2 : upd (upd H D (.dK [])) D (.dK kvj) L = some (.lst (ds.map V.ref)) := (AK DnL.symm).trans ((AK DnL.symm).trans eL)
   have eD2 : upd (upd H D (.dK [])) D (.dK kvj) D = some (.dK kvj) := AO
   generalize upd (upd H D (.dK [])) D (.dK kvj) = H2 at *
   refine ⟨_, rfl, _, rfl, by omega, by omega, BM (fun i σ H' => ∃ o, σ = [some (V.ref D), some (V.ref L), some (V.ref q), some (V.str w), some (V.int p), some (V.int x), some (V.int y), some (V.ref dj), o, none] ∧ DL L L H2 H' ∧ H' L = some (.lst ((ds.take (ds.length - i)).map V.ref))) ⟨_, rfl, DL.of (AL.refl _), by rw [Nat.sub_zero, List.take_length]; exact eL2⟩ ?_ ?_⟩
   ·rintro i σ H3 hi ⟨o, rfl, k3, e3⟩
    delta WZ rPop
    have hm : (ds.take (ds.length - i)).length = ds.length - i := by rw [List.length_take]; omega
    have hlt : ds.length - i - 1 < ds.length := by omega
    refine ⟨tyV_l e3, _, e3, ⟨V.ref ds[ds.length - i - 1], ?_⟩, ⟨_, rfl⟩, k3.trans DL.updL, ?_⟩
    ·rw [List.length_map, hm, List.getElem?_map, List.getElem?_take_of_lt (by omega), List.getElem?_eq_getElem hlt]
     rfl
    ·rw [AO, List.dropLast_eq_take, List.length_map, hm, ← List.map_take, List.take_take, show min (ds.length - i - 1) (ds.length - i) = ds.length - (i + 1) by omega]
   ·rintro σ H3 ⟨o, rfl, k3, e3⟩
    have k13 : DL D L H H3 := fun a u h1 h2 e => k3 a u h2 h2 (k2 a u h1 h2 e)
    have eD3 := k3 D _ DnL DnL eD2
    have lj : ds.length - p.toNat = past.length - p.toNat := by omega
    rw [lj] at e3
    refine k H3 ⟨hb.dl eD eL hL k13, ?_, ⟨ds.take (past.length - p.toNat), e3, ?_, fun z => hds (List.mem_of_mem_take z)⟩, hL⟩ (Kept.dl eD eL k13 ⟨_, eD3⟩ ⟨_, e3⟩)
    ·rw [eG]
     exact kj.copy eJ eD3 fun _ _ e => k13.tup eD eL e
    ·rw [eP]
     exact Paired.takeP (Paired.dl pr hds eD eL k13) _
  ·rw [if_neg (fun z => hw (of_decide_eq_true z))]
   walk_at "NX"
   walk_at "Q"
   walk_at "RD"
   refine ⟨D, q, w, p, x, y, gs, rfl, hq, hd, fun g H1 n1 s1 e1 => ?_⟩
   walk_at "NX"
   walk_at "Q"
   walk_at "RD"
   refine ⟨⟨_, s1.get eL⟩, kvs, s1.get eD, fun c H2 n2 s2 e2 => ⟨_, s2.get (s1.get eL), ?_, ?_⟩⟩
   ·rw [List.length_map, PySem.sizeLine_eq]; omega
   walk_at "NX"
   walk_at "RD"
   have eD2 := s2.get (s1.get eD)
   have eL2 := s2.get (s1.get eL)
   have cD : c ≠ D := (Ap (s1.get eD) n2).symm
   have cL : c ≠ L := (Ap (s1.get eL) n2).symm
   have DnL : D ≠ L := Bv eD eL fun z => by cases z
   have k3 : DL D L H (upd H2 L (.lst (ds.map V.ref ++ [V.ref c]))) := (DL.of (s1.trans s2)).trans DL.updL
   have eD3 : upd H2 L (.lst (ds.map V.ref ++ [V.ref c])) D = some (.dK kvs) := (AK DnL).trans eD2
   have d3 : BB (upd H2 L (.lst (ds.map V.ref ++ [V.ref c]))) D gs := hd.copy eD eD3 fun _ _ e => k3.tup eD eL e
   have fin : ∀ H5, DL D L (upd H2 L (.lst (ds.map V.ref ++ [V.ref c]))) H5 → H5 L = some (.lst (ds.map V.ref ++ [V.ref c])) → BB H5 D (Eb w gs past p x y) → Q V.non H5 := fun H5 k5 e5 d5 => by
    have k15 := k3.trans k5
    obtain ⟨kv5, _, eD5, _⟩ := d5.at_
    refine k H5 ⟨hb.dl eD eL hL k15, d5, ⟨ds ++ [c], by rw [List.map_append]; exact e5, ?_, fun z => ?_⟩, hL⟩ (Kept.dl eD eL k15 ⟨_, eD5⟩ ⟨_, e5⟩)
    ·rw [FK hw]
     exact Paired.snoc (Paired.dl pr hds eD eL k15) (hd.copy eD (k5 c _ cD cL ((AK cL).trans e2)) fun _ _ e => k15.tup eD eL e)
    ·rcases List.mem_append.mp z with z | z
     ·exact hds z
     ·exact cD (List.mem_singleton.mp z).symm
   by_cases h2 : w = "take"
   ·rw [if_pos (decide_eq_true h2)]
    rw [IL h2] at hno
    unfold GG at hno
    have hp : p ∈ Aw gs := by
     by_cases z : p ∈ Aw gs
     ·exact z
     ·rw [if_neg z] at hno; cases hno
    obtain ⟨gg, hgg, hgp⟩ := List.mem_map.mp hp
    subst hgp
    obtain ⟨kv, a, z1, z2, z3⟩ := d3.pop hgg
    refine ⟨d3.isD, kv, z1, .inl gg.p, rfl, ⟨_, z2⟩, fin _ DL.updD ((AK DnL.symm).trans AO) ?_⟩
    rw [MA h2]
    exact z3
   ·rw [if_neg (fun z => h2 (of_decide_eq_true z))]
    have e13 := k3.trans (DL.of (AL.refl _))
    have eg : upd H2 L (.lst (ds.map V.ref ++ [V.ref c])) g = some (.tup [.int p, .int (BS w gs p x y).1, .int (BS w gs p x y).2]) := (AK (Bv (s2.get e1) eL2 fun z => by cases z)).trans (s2.get e1)
    refine ⟨_, SqT.of eg, _, rfl, _, SqT.of eg, _, rfl, by decide, fun t H4 n4 s4 e4 => ?_⟩
    obtain ⟨kv, kv', z1, z2, z3⟩ := (d3.same s4).dput (x := p) sd e4
    refine ⟨_, z2, fin _ ((DL.of s4).trans DL.updD) ((AK DnL.symm).trans (s4.get AO)) ?_⟩
    rw [FY hw h2]
    exact z3
theorem FJ : AY ["_law_beach", "_law_stands", "_law_past", "_law_deed_here", "_law_due", "_law_gate", "_law_good", "_law_told_here"] ["_law_beach", "_law_stands", "_law_past", "_law_deed_here"] (AH Lk) := by walk_at "SC"
def Rs {K : PySem.W.Frag} {mg : Str → Option Value} (T : Tx K mg) : Sp := fun vs H Q _ => ∃ (b S P : Addr) (ow : List Addr) (gs : List G) (past : List (List G)) (D L q : Addr) (w : Str) (p x y : Int), vs = [.ref b, .ref D, .ref L, .ref q] ∧ SqT K H q [.str w, .int p, .int x, .int y] ∧ Wd T.AW H b S P ow gs past D L ∧ Wrd w ∧ ∀ H' S' P' ow', Wd T.AW H' b S' P' ow' (aft w gs past p x y).1 (aft w gs past p x y).2 D L → Kept (L :: ow) H H' (L :: ow') → Q (.bl true) H'
theorem KP (T : Tx K mg) : Ay P w K mg base CX0 5 T.OU T.NC ["_law_beach", "_law_stands", "_law_past", "_law_deed_here"] (Rs T) := by
 refine T.CF.F.ok FJ (fun vs H Q E h => ?_) (fun cdv A outer s H vs Q E hr h => ?_)
 ·obtain ⟨b, S, P, ow, gs, past, D, L, q, w, p, x, y, rfl, hq, hw, wd, k⟩ := h
  rfl
 ·obtain ⟨b, S, P, ow, gs, past, D, L, q, w, p, x, y, rfl, hq, hw, wd, k⟩ := h
  have hu := At hr
  refine ⟨_, (AC (AJ (i := 4) FJ.nd rfl (by walk_at "O") (AR (Nr T) (hr.mono (by decide)) (by rfl) T.Ee.m T.Ee.F.kp T.Ee.b .nil Ad (AA (pv 1) (AA (pv 2) (AA (pv 3) AD)))))
   (AC (AJ (i := 5) FJ.nd rfl (by walk_at "O") (AR (IS T) (hr.mono (by decide)) (by rfl) T.Bl.m T.Bl.F.kp T.Bl.b .nil Ad (AA (pv 1) (AA (pv 3) AD))))
   (AC (Fc (AR (Ri T) (hr.mono (by decide)) (by rfl) T.Iv.m T.Iv.F.kp T.Iv.b .nil Ad (AA (pv 0) (AA (pv 3) AD))) (S6 (n := 2) rfl (Ao (AZ (i := 6) FJ.nd rfl (by walk_at "O")) (Ao (AZ (i := 7) FJ.nd rfl (by walk_at "O")) Cy))))
   (AC (Ah (AQ EY (pv 6) (BY A5 (pv 4) Af (AS _)) (AS _)) (AE (AI BE))
    AV)
   (AC (Ah (AQ EY (pv 4) Af (AS _)) (AE (AI (BY A5 (pv 7) (pv 4) (AS _))))
    AV)
   (AC (BX (AR (Rx T) (hr.mono (by decide)) (by rfl) T.Ix.m T.Ix.F.kp T.Ix.b .nil Ad (AA (pv 1) (AA (pv 2) (AA (pv 3) AD)))))
   (AC (Ah (AQ A5 (AG AT (pv 3) AB (fun _ _ => rfl)) Af (AS _)) (AE (AI (K9 (AR (Ff T) (hr.mono (by decide)) (by rfl) T.BK.m T.BK.F.kp T.BK.b .nil Ad (AA (pv 7) AD)) (IJ (BY A5 (pv 7) (AM AU (by rfl) T.A8 Ax (AA (pv 2) AD)) (AS _))))))
    AV)
   (AE (AI (AR (N7 T) (hr.mono (by decide)) (by rfl) T.Em.m T.Em.F.kp T.Em.b .nil Ad (AA (pv 7) (AA (pv 5) AD)))))))))))), ?_⟩
  walk_at "RD"
  refine ⟨b, S, P, ow, gs, past, D, L, q, w, p, x, y, rfl, hq, hw, wd, fun H1 s1 => ?_⟩
  refine ⟨D, q, w, p, x, y, gs, rfl, s1.tup hq, hw.dk.same s1, fun g H2 n2 s2 e2 => ?_⟩
  have s12 := s1.trans s2
  have hw2 := hw.same s12
  refine ⟨b, S, P, ow, gs, past, q, w, p, x, y, rfl, s12.tup hq, hw2.bch, wd, fun e he Dn H3 n3 s3 e3 => ?_, fun hno Dn H3 S' P' ow' v n3 kp hb' ho lv nf e3 hv1 hv2 => ?_⟩
  ·rw [he]
   walk_at "RD"
   have h0 : decide (SR (some e) = Str.ofString "") = false := decide_eq_false T3
   refine ⟨_, SqL.of e3, rfl, _, _, rfl, _, _, rfl, rfl, rfl, ?_⟩
   rw [h0, if_neg (by simp), if_pos (show (!false) = true from rfl)]
   refine ⟨rfl, ?_⟩
   rw [decide_eq_true (show V.str (SS e) = V.str (SR (some e)) from rfl)]
   have s13 := s12.trans s3
   exact k H3 S P ow (by rw [RB he]; exact hw.same s13) (Kept.of s13)
  ·rw [hno]
   walk_at "RD"
   have h0 : decide (SR none = Str.ofString "") = true := decide_eq_true rfl
   refine ⟨_, SqL.of e3, rfl, _, _, rfl, _, _, rfl, rfl, rfl, ?_⟩
   rw [h0, if_neg (by simp), if_neg (by simp)]
   obtain ⟨dD, lD, hLo⟩ := hw2.deed kp hb' ho
   have q3 := hw2.bch.sqt kp (s12.tup hq)
   refine ⟨b, S', P', ow', gs, gs, past, past, D, L, q, w, p, x, y, rfl, q3, hb', hw.bch.std, hw.bch.len, dD, lD, hLo, wd, hno, fun H4 wd4 kt4 => ?_⟩
   have kt : Kept (L :: ow) H H4 (L :: ow') := (Kept.of s12).trans ((Kept.kp hw2.bch kp hb' ho lv).cons.trans kt4)
   have fin : Q (.bl true) H4 := k H4 S' P' ow' (by rw [Pu hno]; exact wd4) kt
   refine ⟨_, kt4.sqt q3, _, rfl, rfl, ?_⟩
   by_cases hback : w = "back"
   ·rw [if_pos (decide_eq_true (by rw [hback])), hv1 hback]
    obtain ⟨xs, eL4, lL4⟩ := wd4.plen
    delta DK
    refine ⟨⟨_, rfl⟩, _, .inl (SqL.of eL4), ?_⟩
    rw [lL4, decide_eq_true rfl]
    exact fin
   ·rw [if_neg (fun z => hback (V.str.inj (of_decide_eq_true z)))]
    obtain ⟨t, rfl, et⟩ := hv2 hback
    exact ⟨t, g, [p, (BS w gs p x y).1, (BS w gs p x y).2], rfl, kt4.tup _ _ et, SqT.of (kt4.tup _ _ (hw2.bch.tup kp e2)), by simp only [List.length_cons, List.length_nil]; omega, fin⟩
theorem PP : AY ["_law_script", "_law_cell"] ["_law_script"] (AH Nv) := by walk_at "SC"
def Lp (K : PySem.W.Frag) : Sp := fun vs H Q _ => ∃ (a : Addr) (ns : List Int), vs = [.ref a] ∧ SqL K H a (ns.map V.int) ∧ ∀ H' v, AL H H' → Q (.int v) H'
theorem O0 (T : Tx K mg) : Ay P w K mg base CX0 2 T.RG T.Oh ["_law_script"] (Lp K) := by
 refine T.Fa.F.ok PP (fun vs H Q E h => ?_) (fun cdv A outer s H vs Q E hr h => ?_)
 ·obtain ⟨a, ns, rfl, hS, k⟩ := h
  rfl
 ·obtain ⟨a, ns, rfl, hS, k⟩ := h
  have hu := At hr
  refine ⟨_, (AC (AJ (i := 1) PP.nd rfl (by walk_at "O") (AR (JE T) (hr.mono (by decide)) (by rfl) T.CC.m T.CC.F.kp T.CC.b .nil Ad (AA (pv 0) (AA AB AD))))
   (AE (AI (AG AN (AR (Db T) (hr.mono (by decide)) (by rfl) T.A0.m T.A0.F.kp T.A0.b .nil Ad (AA (pv 1) (AA AB (AA (BY A5 (AF Aa (pv 1) AB) AB (AS _)) AD)))) AB (fun _ _ => rfl))))), ?_⟩
  delta G8 DU
  refine ⟨ns, hS, ⟨_, rfl⟩, ⟨_, rfl⟩, fun D H1 xs n1 s1 e1 l1 => ?_⟩
  exact ⟨_, SqL.of e1, _, BA (by omega) (by omega), k _ _ s1⟩
theorem DJ : AY ["_law_beach", "_law_stands", "_law_past", "_law_script", "_law_most_here", "_law_how_here", "_law_many", "_law_place", "_law_foot", "_law_head", "_law_count"] ["_law_beach", "_law_stands", "_law_past", "_law_script", "_law_most_here"] (AH L6) := by walk_at "SC"
def SD {K : PySem.W.Frag} {mg : Str → Option Value} (T : Tx K mg) : Sp := fun vs H Q _ => ∃ (b S0 P0 D L a : Addr) (ns : List Int) (most : Int), vs = [.ref b, .ref D, .ref L, .ref a, .int most] ∧ Scr K [L, S0, P0] H a (ns.map V.int) ∧ Wd T.AW H b S0 P0 [S0, P0] [] [] D L ∧ 0 ≤ most ∧ most ≤ 40 ∧ ∀ (H' : Hp) (S P : Addr) (ow : List Addr) (gs : List G) (past : List (List G)), Kept [L, S0, P0] H H' (L :: ow) → Wd T.AW H' b S P ow gs past D L → Q (.bl true) H'
theorem R6 (T : Tx K mg) : Ay P w K mg base CX0 6 T.O9 T.Nm ["_law_beach", "_law_stands", "_law_past", "_law_script", "_law_most_here"] (SD T) := by
 refine T.Iu.F.ok DJ (fun vs H Q E h => ?_) (fun cdv A outer s H vs Q E hr h => ?_)
 ·obtain ⟨b, S0, P0, D, L, a, ns, most, rfl, sc, hw, m0, m1, k⟩ := h
  rfl
 ·obtain ⟨b, S0, P0, D, L, a, ns, most, rfl, sc, hw, m0, m1, k⟩ := h
  have hu := At hr
  refine ⟨_, (AC (AJ (i := 5) DJ.nd rfl (by walk_at "O") (AF Br (AR (O0 T) (hr.mono (by decide)) (by rfl) T.Fa.m T.Fa.F.kp T.Fa.b .nil Ad (AA (pv 3) AD)) AB))
   (AC (AJ (i := 6) DJ.nd rfl (by walk_at "O") (AG AN (An (AA (AF Aa (AF Br (pv 5) AB) (AF Al (pv 4) AB)) (AA AB (AA (AF Aa (AF Br (pv 5) AB) AB) (AA (pv 4) AD))))) (AF Aa (pv 5) AB) (fun _ _ => rfl)))
   (AC (BO PassesOwn.never rfl (Bi (AR (QR T) (hr.mono (by decide)) (by rfl) T.G7.m T.G7.F.kp T.G7.b .nil Ad (AA (pv 3) (AA AB (AA (pv 6) AD))))) (Fm (n := 3) rfl (Ao (AZ (i := 7) DJ.nd rfl (by walk_at "O")) (Ao (AZ (i := 8) DJ.nd rfl (by walk_at "O")) (Ao (AZ (i := 9) DJ.nd rfl (by walk_at "O")) Cy))))
    (AE (Ah (CO (Bc (AR (KP T) (hr.mono (by decide)) (by rfl) T.CF.m T.CF.F.kp T.CF.b .nil Ad (AA (pv 0) (AA (pv 1) (AA (pv 2) (AA (Av (AA Af (AA (pv 7) (AA (pv 8) (AA (pv 9) AD))))) AD))))))) (AE (AI BE))
      AV)))
   (Bt (Ah (De (AQ A5 (AF Aa (AF Br (pv 5) AB) AB) AB (AS _)) (C1 (AQ GB (pv 6) AB (AS _)))).pt (AE (BO PassesOwn.never rfl (Bo (by rfl) T.Bx (AA (AF Am (AF Al AB (AF Aa (AF Br (pv 5) AB) AB)) (pv 6)) AD)) (AZ (i := 10) DJ.nd rfl (by walk_at "O"))
      (AE (Ah (CO (Bc (AR (KP T) (hr.mono (by decide)) (by rfl) T.CF.m T.CF.F.kp T.CF.b .nil Ad (AA (pv 0) (AA (pv 1) (AA (pv 2) (AA (Av (AA Af (AA (AG AN (AM (Fz (by rfl)) (by rfl) T.EE DI (AA (pv 1) AD)) AB (fun _ _ => rfl)) (AA AB (AA AB AD))))) AD))))))) (AE (AI BE))
        AV))))
    AV)
   (AE (AI BE)))))), ?_⟩
  walk_at "Q"
  delta Lp
  refine ⟨⟨_, sc.sq⟩, fun H1 v s1 => ?_⟩
  walk_at "NX"
  walk_at "Q"
  walk_at "RD"
  refine ⟨by omega, by decide, fun z H2 n2 s2 e2 => ?_⟩
  obtain ⟨m, hm, hm0, hm1⟩ : ∃ m : Int, atI [V.int (v / 40 / 4 % (most + 1)), V.int 0, V.int (v / 40 / 4 % 8), V.int most] (v / 40 % 4) = some (V.int m) ∧ 0 ≤ m ∧ m ≤ 40 := by
   obtain ⟨m, hm, h⟩ := atL4 (x := v / 40 / 4 % (most + 1)) (y := 0) (z := v / 40 / 4 % 8) (t := most) (e := v / 40 % 4) (by omega) (by omega)
   have q1 := Int.emod_nonneg (v / 40 / 4) (show most + 1 ≠ 0 by omega)
   have q2 := Int.emod_lt_of_pos (v / 40 / 4) (show 0 < most + 1 by omega)
   exact ⟨m, hm, by omega, by omega⟩
  have s12 := s1.trans s2
  have hw2 := hw.same s12
  have lv2 : ∀ c ∈ [L, S0, P0], ∃ u, H2 c = some u := fun c hc => by
   simp at hc
   rcases hc with rfl | rfl | rfl
   ·obtain ⟨xs, e, _⟩ := hw2.plen
    exact ⟨_, e⟩
   ·exact (let ⟨_, z⟩ := hw2.bch.lv c (by simp); ⟨_, z⟩)
   ·exact (let ⟨_, z⟩ := hw2.bch.lv c (by simp); ⟨_, z⟩)
  refine ⟨_, SqL.of e2, _, hm, ?_⟩
  walk_at "NX"
  refine ⟨_, rfl, _, rfl, a, 1, m, ns, rfl, s12.seq sc.sq, by decide, by decide, hm0, by omega, fun GL H3 as gs nG s3 eG ga lg ok nd => ⟨GL, rfl, ⟨_, SqL.of eG⟩, ?_⟩⟩
  have oG : GL ∉ [L, S0, P0] := fun z => by
   obtain ⟨u, hu⟩ := lv2 GL z
   rw [nG] at hu; cases hu
  have s13 := s12.trans s3
  have k03 : Kept [L, S0, P0] H H3 [L, S0, P0] := Kept.of s13
  have las := ga.len
  refine EQ (xs := as.map V.ref) (fun i σ H' => ∃ (o7 o8 o9 : Option V) (S P : Addr) (ow : List Addr) (G0 : List G) (past : List (List G)), σ = [some (.ref b), some (.ref D), some (.ref L), some (.ref a), some (.int most), some (.int (v / 40)), some (.int m), o7, o8, o9, none] ∧ Kept [L, S0, P0] H3 H' (L :: ow) ∧ Wd T.AW H' b S P ow G0 past D L ∧ G0.Perm (gs.take i) ∧ past.length = i) ⟨none, none, none, S0, P0, _, [], [], rfl, Kept.refl, hw.same s13, List.Perm.refl _, rfl⟩ (fun _ _ _ _ ⟨_, _, _, _, _, _, _, _, _, kt, _⟩ => SqL.of (kt.lst _ _ oG eG)) ?_ ?_
  ·rintro i v' σ H4 hx ⟨o7, o8, o9, S, P, ow, G0, past, rfl, kt, hw4, pm, hpl⟩
   have hi : i < gs.length := by
    have := (List.getElem?_eq_some_iff.mp hx).1
    rw [List.length_map] at this
    omega
   obtain ⟨ai, hai, ti'⟩ := ga.get (List.getElem?_eq_getElem hi)
   have ex : v' = V.ref ai := by
    rw [List.getElem?_map, hai] at hx
    exact (Option.some.inj hx).symm
   subst ex
   have ti := kt.tup _ _ ti'
   obtain ⟨fp1, fp2⟩ := SI pm hi nd (by omega) ok (past := past) (by omega)
   generalize gs[i] = g at *
   delta Js FL Jx
   refine ⟨_, SqT.of ti, rfl, _, _, rfl, _, _, rfl, _, _, rfl, rfl, by decide, fun q H5 n5 s5 e5 => ?_⟩
   have fp1' := (J0 (w := "put") rfl).trans fp1
   refine ⟨b, S, P, ow, G0, past, D, L, q, "put", g.p, g.f, g.h, rfl, SqT.of e5, hw4.same s5, .put rfl, fun H6 S' P' ow' hw6 kt6 => ⟨true, rfl, ?_⟩⟩
   rw [Pu fp1', FY (by decide) (by decide), FK (by decide), KG rfl] at hw6
   rw [if_neg (by simp)]
   exact ⟨⟨_, rfl⟩, ⟨_, rfl⟩, ⟨_, rfl⟩, S', P', ow', (kt.same s5).trans kt6, _, _, hw6, fp2, by rw [List.length_append, hpl]; rfl⟩
  rintro σ H4 ⟨o7, o8, o9, S, P, ow, G0, past, rfl, kt, hw4, pm, hpl⟩
  rw [List.length_map, las, List.take_length] at pm
  refine ⟨fun σ' H' => ∃ (o10 : Option V) (S P : Addr) (ow : List Addr) (G0 : List G) (past : List (List G)), σ' = [some (.ref b), some (.ref D), some (.ref L), some (.ref a), some (.int most), some (.int (v / 40)), some (.int m), o7, o8, o9, o10] ∧ Kept [L, S0, P0] H3 H' (L :: ow) ∧ Wd T.AW H' b S P ow G0 past D L, ?_, ?_⟩
  ·walk_at "RD"
   by_cases hc : v / 40 / 4 % 9 = 1
   ·rw [if_pos (decide_eq_true hc)]
    by_cases hc2 : 0 < m
    ·rw [if_pos (decide_eq_true hc2)]
     have hne : G0 ≠ [] := fun z => by
      rw [z] at pm
      have := pm.length_eq
      simp at this
      omega
     refine ⟨_, rfl, _, _, rfl, rfl, (show (0 : Int) < 36 ∧ (36 : Int) < 1073741824 by decide), _, _, rfl, rfl, (show (0 : Int) < 11 by decide), _, _, rfl, rfl, _, rfl, _, _, rfl, rfl, _, rfl, by omega, by omega, BM (fun i σ H' => ∃ (o10 : Option V) (S P : Addr) (ow : List Addr) (G0 : List G) (past : List (List G)), σ = [some (.ref b), some (.ref D), some (.ref L), some (.ref a), some (.int most), some (.int (v / 40)), some (.int m), o7, o8, o9, o10] ∧ Kept [L, S0, P0] H3 H' (L :: ow) ∧ Wd T.AW H' b S P ow G0 past D L ∧ G0 ≠ []) ⟨none, S, P, ow, G0, past, rfl, kt, hw4, hne⟩ ?_ ?_⟩
     ·rintro i σ H5 hi ⟨o10, S, P, ow, G0, past, rfl, kt, hw5, hne⟩
      obtain ⟨kvs, ks, eD, e2, lk, lkv, l64⟩ := XF (K := K) hw5.dk hw5.bch.std.len
      have hpos : 0 < G0.length := List.length_pos_iff.mpr hne
      delta OC
      refine ⟨kvs, eD, ks, e2, l64, fun Ds Hs ks' ns' ss es pm' so => ?_⟩
      have lks := pm'.length_eq
      refine ⟨_, SqL.of es, _, BA (by omega) (by omega), by decide, fun q H6 n6 s6 e6 => ?_⟩
      refine ⟨b, S, P, ow, G0, past, D, L, q, "lift", _, 0, 0, rfl, SqT.of e6, hw5.same (ss.trans s6), .lift rfl, fun H7 S' P' ow' hw7 kt7 => ⟨true, rfl, ?_⟩⟩
      rw [if_neg (by simp)]
      exact ⟨⟨_, rfl⟩, S', P', ow', ((kt.same ss).same s6).trans kt7, _, ⟨_, hw7⟩, SH hne⟩
     ·rintro σ H5 ⟨o10, S, P, ow, G0, past, rfl, kt, hw5, hne⟩
      exact ⟨⟨_, rfl⟩, S, P, ow, kt, _, _, hw5⟩
    ·rw [if_neg (fun z => hc2 (of_decide_eq_true z))]
     exact ⟨⟨_, rfl⟩, S, P, ow, kt, _, _, hw4⟩
   ·rw [if_neg (fun z => hc (of_decide_eq_true z))]
    exact ⟨⟨_, rfl⟩, S, P, ow, kt, _, _, hw4⟩
  rintro σ' H5 ⟨o10, S, P, ow, G0, past, rfl, kt, hw5⟩
  walk_at "RD"
  exact k H5 S P ow G0 past (k03.trans kt) hw5
theorem Rq : AY ["_law_draw"] ["_law_draw"] (AH LH) := by walk_at "SC"
def FR (K : PySem.W.Frag) : Sp := fun vs H Q _ => ∃ d : Int, vs = [.int d] ∧ ∀ H' v, AL H H' → Q (.int v) H'
theorem Gx (T : Tx K mg) : Ay P w K mg base CX0 1 T.Ph T.Nd ["_law_draw"] (FR K) := by
 refine T.Bd.F.ok Rq (fun vs H Q E h => ?_) (fun cdv A outer s H vs Q E hr h => ?_)
 ·obtain ⟨d, rfl, k⟩ := h
  rfl
 ·obtain ⟨d, rfl, k⟩ := h
  have hu := At hr
  refine ⟨_, (AE (AI (AG AN (An (AA (F7 Di AB) (AA (F7 Di AB) (AA (F7 Di AB) (AA AB (AA AB (AA AB (AA AB (AA (AF P9 AB AB) (AA (F7 Di (AF P9 AB AB)) AD)))))))))) (AF Aa (pv 0) AB) (fun _ _ => rfl)))), ?_⟩
  walk_at "RD"
  refine ⟨by decide, fun D H1 n1 s1 e1 => ?_⟩
  exact ⟨_, SqL.of e1, _, BA (xs := [-1001, -1000, -999, 0, 999, 1000, 1001, 1000000000000000000000000000000, -1000000000000000000000000000000]) (by omega) (by simp only [List.length_cons, List.length_nil]; omega), k _ _ s1⟩
theorem A7 : AY ["_law_script", "_law_k", "_law_stands", "_law_past", "_law_how_here", "_law_mixed", "_law_row", "_law_word", "_law_pool", "_law_place", "_law_many", "_law_kind", "_law_one", "_law_two", "_law_line", "_law_any_two", "_law_foot", "_law_head"] ["_law_script", "_law_k", "_law_stands", "_law_past"] (AH LS) := by walk_at "SC"
theorem deedW {e : Int} (h1 : 0 ≤ e) (h2 : e < 7) : ∃ w, atI [V.str "put", V.str "put", V.str "put", V.str "lift", V.str "sink", V.str "take", V.str "back"] e = some (V.str w) ∧ Wrd w := by
 rcases (show e = 0 ∨ e = 1 ∨ e = 2 ∨ e = 3 ∨ e = 4 ∨ e = 5 ∨ e = 6 by omega) with rfl | rfl | rfl | rfl | rfl | rfl | rfl
 ·exact ⟨_, rfl, .put rfl⟩
 ·exact ⟨_, rfl, .put rfl⟩
 ·exact ⟨_, rfl, .put rfl⟩
 ·exact ⟨_, rfl, .lift rfl⟩
 ·exact ⟨_, rfl, .sink rfl⟩
 ·exact ⟨_, rfl, .take rfl⟩
 ·exact ⟨_, rfl, .back rfl⟩
def Rp (K : PySem.W.Frag) : Sp := fun vs H Q _ => ∃ (a : Addr) (k : Int) (ns : List Int) (D L : Addr) (gs : List G) (xs : List V), vs = [.ref a, .int k, .ref D, .ref L] ∧ SqL K H a (ns.map V.int) ∧ 0 ≤ k ∧ k < ns.length ∧ ns.length ≤ 63 ∧ BB H D gs ∧ gs.length ≤ 40 ∧ H L = some (.lst xs) ∧ ∀ (D : Addr) (H' : Hp) (w : Str) (p x y : Int), H D = none → AL H H' → H' D = some (.tup [.str w, .int p, .int x, .int y]) → Wrd w → Q (.ref D) H'
theorem RO (T : Tx K mg) : Ay P w K mg base CX0 3 T.PF T.NX ["_law_script", "_law_k", "_law_stands", "_law_past"] (Rp K) := by
 refine T.JN.F.ok A7 (fun vs H Q E h => ?_) (fun cdv A outer s H vs Q E hr h => ?_)
 ·obtain ⟨a, k0, ns, D, L, gs, xs, rfl, hS, h0, h1, h63, hd, l40, eL, k⟩ := h
  rfl
 ·obtain ⟨a, k0, ns, D, L, gs, xs, rfl, hS, h0, h1, h63, hd, l40, eL, k⟩ := h
  have hu := At hr
  refine ⟨_, (AC (AJ (i := 4) A7.nd rfl (by walk_at "O") (AR (O0 T) (hr.mono (by decide)) (by rfl) T.Fa.m T.Fa.F.kp T.Fa.b .nil Ad (AA (pv 0) AD)))
   (AC (AJ (i := 5) A7.nd rfl (by walk_at "O") (BY A5 (AF Aa (AG AN (pv 0) AB (fun _ _ => rfl)) AB) AB (AS _)))
   (AC (AJ (i := 6) A7.nd rfl (by walk_at "O") (AR (Db T) (hr.mono (by decide)) (by rfl) T.A0.m T.A0.F.kp T.A0.b .nil Ad (AA (AG AN (An (AA (AG AN (pv 0) (pv 1) (fun _ _ => rfl)) (AA (AF Al (AG AN (pv 0) (pv 1) (fun _ _ => rfl)) (AF DD AB (pv 1))) AD))) (G9 NF (by rfl) T.SO Pn (AA (pv 5) AD)) (fun _ _ => rfl)) (AA AB (AA (pv 5) AD)))))
   (Bt (AJ (i := 7) A7.nd rfl (by walk_at "O") (AG AN (An (AA Af (AA Af (AA Af (AA Af (AA Af (AA Af (AA Af AD)))))))) (AF Aa (AG AN (pv 6) AB (fun _ _ => rfl)) AB) (fun _ _ => rfl)))
   (AC (AJ (i := 8) A7.nd rfl (by walk_at "O") (AG AN (An (AA AB (AA AB (AA AB (AA AB AD))))) (AF Aa (AF Br (pv 4) AB) AB) (fun _ _ => rfl)))
   (AC (AJ (i := 9) A7.nd rfl (by walk_at "O") (AF Am (AF Aa (AG AN (pv 6) AB (fun _ _ => rfl)) (pv 8)) (AF Br (pv 8) AB)))
   (Bt (Ah (De (AQ A5 (AF Aa (AG AN (pv 6) AB (fun _ _ => rfl)) AB) AB (AS _)) (C1 (AQ GB (AM Ju (by rfl) T.A8 Ax (AA (pv 2) AD)) AB (AS _)))).pt (AE (AJ (i := 9) A7.nd rfl (by walk_at "O") (AG AN (AM (Fz (by rfl)) (by rfl) T.EE DI (AA (pv 2) AD)) (AF Aa (AG AN (pv 6) AB (fun _ _ => rfl)) (AM Ju (by rfl) T.A8 Ax (AA (pv 2) AD))) (fun _ _ => rfl))))
    AV)
   (AC (Ah (AQ A5 (pv 7) Af (AS _)) (AC (AJ (i := 10) A7.nd rfl (by walk_at "O") (AG AN (An (AA AB (AA AB (AA (AF Al AB (AF Aa (AG AN (pv 6) AB (fun _ _ => rfl)) AB)) (AA (AM AU (by rfl) T.A8 Ax (AA (pv 3) AD)) (AA (AF Al (AM AU (by rfl) T.A8 Ax (AA (pv 3) AD)) AB) (AA AB (AA (F7 Di AB) (AA (AF P9 AB AB) AD))))))))) (AF Aa (AG AN (pv 6) AB (fun _ _ => rfl)) AB) (fun _ _ => rfl)))
     (AE (AI (Av (AA (pv 7) (AA (pv 10) (AA (AF Aa (AG AN (pv 6) AB (fun _ _ => rfl)) AB) (AA AB AD))))))))
    AV)
   (Bt (AJ (i := 11) A7.nd rfl (by walk_at "O") (AF Aa (AF Br (AG AN (pv 6) AB (fun _ _ => rfl)) AB) AB))
   (AC (Ah (AQ EY (pv 7) Af (AS _)) (Bt (AJ (i := 12) A7.nd rfl (by walk_at "O") (AG AN (An (AA (AF Am (AF Aa (AG AN (pv 6) AB (fun _ _ => rfl)) AB) AB) (AA (AF Am (AF Aa (AG AN (pv 6) AB (fun _ _ => rfl)) AB) AB) (AA AB (AA (AF Am (AF Aa (AG AN (pv 6) AB (fun _ _ => rfl)) AB) AB) (AA (AR (Gx T) (hr.mono (by decide)) (by rfl) T.Bd.m T.Bd.F.kp T.Bd.b .nil Ad (AA (AG AN (pv 6) AB (fun _ _ => rfl)) AD)) (AA AB AD))))))) (pv 11) (fun _ _ => rfl)))
     (AC (AJ (i := 13) A7.nd rfl (by walk_at "O") (AG AN (An (AA (pv 12) (AA (AF Am (AF Aa (AG AN (pv 6) AB (fun _ _ => rfl)) AB) AB) (AA (AF Aa (AG AN (pv 6) AB (fun _ _ => rfl)) AB) (AA (AF Am (AF Aa (AG AN (pv 6) AB (fun _ _ => rfl)) AB) AB) (AA (AR (Gx T) (hr.mono (by decide)) (by rfl) T.Bd.m T.Bd.F.kp T.Bd.b .nil Ad (AA (AG AN (pv 6) AB (fun _ _ => rfl)) AD)) (AA AB AD))))))) (pv 11) (fun _ _ => rfl)))
     (AE (AI (Av (AA (pv 7) (AA (pv 9) (AA (pv 12) (AA (pv 13) AD)))))))))
    AV)
   (AC (AJ (i := 14) A7.nd rfl (by walk_at "O") (AF DD (pv 9) (AF Am (AF Aa (AF Br (pv 4) AB) AB) AB)))
   (Bt (AJ (i := 15) A7.nd rfl (by walk_at "O") (An (AA (AF Am (AF Aa (AG AN (pv 6) AB (fun _ _ => rfl)) AB) AB) (AA (AF Am (AF Aa (AG AN (pv 6) AB (fun _ _ => rfl)) AB) AB) AD))))
   (Bt (AJ (i := 16) A7.nd rfl (by walk_at "O") (AG AN (An (AA (AG AN (pv 15) AB (fun _ _ => rfl)) (AA (AF Am (AF Aa (AG AN (pv 6) AB (fun _ _ => rfl)) AB) AB) (AA (AF Am (pv 14) (AF Aa (AG AN (pv 6) AB (fun _ _ => rfl)) AB)) (AA (pv 14) (AA (AR (Gx T) (hr.mono (by decide)) (by rfl) T.Bd.m T.Bd.F.kp T.Bd.b .nil Ad (AA (AG AN (pv 6) AB (fun _ _ => rfl)) AD)) (AA (AG AN (pv 15) AB (fun _ _ => rfl)) AD))))))) (pv 11) (fun _ _ => rfl)))
   (AC (AJ (i := 17) A7.nd rfl (by walk_at "O") (AG AN (An (AA (AF Am (AF Al (pv 16) (AF Aa (AG AN (pv 6) AB (fun _ _ => rfl)) AB)) AB) (AA (AF Am (AF Al (pv 16) (AF Aa (AG AN (pv 6) AB (fun _ _ => rfl)) AB)) AB) (AA (AF Al (pv 14) (AF Aa (AG AN (pv 6) AB (fun _ _ => rfl)) AB)) (AA (pv 14) (AA (AR (Gx T) (hr.mono (by decide)) (by rfl) T.Bd.m T.Bd.F.kp T.Bd.b .nil Ad (AA (AG AN (pv 6) AB (fun _ _ => rfl)) AD)) (AA (AG AN (pv 15) AB (fun _ _ => rfl)) AD))))))) (pv 11) (fun _ _ => rfl)))
   (AE (AI (Av (AA (pv 7) (AA (pv 9) (AA (pv 16) (AA (pv 17) AD))))))))))))))))))))), ?_⟩
  walk_at "Q"
  delta Lp
  refine ⟨⟨_, hS⟩, fun H1 v s1 => ?_⟩
  walk_at "NX"
  have hS1 := s1.seq hS
  have hn : 0 < ns.length := by omega
  walk_at "Q"
  walk_at "RD"
  refine ⟨_, hS1, _, BA (by omega) (by omega), _, rfl, ?_⟩
  walk_at "NX"
  generalize ns.getD (Int.toNat 0) 0 = c0 at *
  generalize decide (c0 % 2 = 0) = mx at *
  walk_at "Q"
  walk_at "RD"
  refine ⟨_, hS1, _, BA (by omega) (by omega), _, hS1, _, BA (by omega) (by omega), _, rfl, by decide, fun z1 H2 n2 s2 e2 => ?_⟩
  generalize ns.getD k0.toNat 0 = ck at *
  refine ⟨_, SqL.of e2, _, BA (xs := [ck, ck + 977 * k0]) (by split <;> omega) (by simp only [List.length_cons, List.length_nil]; split <;> omega), ?_⟩
  refine ⟨_, 5, _, rfl, by decide, by decide, fun R H3 rs n3 s3 e3 l3 => ?_⟩
  walk_at "NX"
  have s13 := s1.trans (s2.trans s3)
  refine ⟨fun σ' H' => ∃ w, σ' = [some (.ref a), some (.int k0), some (.ref D), some (.ref L), some (.int v), some (.bl mx), some (.ref R), some (.str w), none, none, none, none, none, none, none, none, none, none] ∧ AL H3 H' ∧ Wrd w, ?_, ?_⟩
  ·walk_at "RD"
   refine ⟨by decide, fun z2 H4 n4 s4 e4 => ?_⟩
   obtain ⟨w, hw, wd⟩ := deedW (e := rs.getD 0 0 % 7) (by omega) (by omega)
   exact ⟨_, SqL.of (s4.get e3), _, BA (by omega) (by omega), _, rfl, _, SqL.of e4, _, hw, _, rfl, s4, wd⟩
  rintro σ' H4 ⟨w, rfl, s4, wd⟩
  have s14 := s13.trans s4
  have e34 := s4.get e3
  clear s1 s2 s3 s4 s13 e2 e3 n2 n3
  walk_at "Q"
  walk_at "RD"
  refine ⟨by decide, fun z3 H5 n5 s5 e5 => ?_⟩
  obtain ⟨pool, hpool, hp2⟩ := atL4 (x := 5) (y := 13) (z := 45) (t := 2003) (e := v / 2 % 4) (by omega) (by omega)
  have hp3 : 0 < pool := by omega
  have e35 := s5.get e34
  refine ⟨_, SqL.of e5, _, hpool, ?_⟩
  walk_at "NX"
  walk_at "Q"
  walk_at "RD"
  refine ⟨_, SqL.of e35, _, BA (by omega) (by omega), _, rfl, by omega, ?_⟩
  walk_at "NX"
  refine ⟨fun σ' H' => ∃ pl : Int, σ' = [some (.ref a), some (.int k0), some (.ref D), some (.ref L), some (.int v), some (.bl mx), some (.ref R), some (.str w), some (.int pool), some (.int pl), none, none, none, none, none, none, none, none] ∧ AL H5 H', ?_, ?_⟩
  ·delta OC
   have hd5 := hd.same (s14.trans s5)
   obtain ⟨kvs, ks, eD, e2, pm, _⟩ := hd5.at_
   have lk := pm.length_eq
   rw [List.length_map] at lk
   have lkv : kvs.length = ks.length := by have := congrArg List.length e2; simpa using this
   refine ⟨_, SqL.of e35, _, BA (by omega) (by omega), _, rfl, ?_⟩
   by_cases hc : rs.getD (Int.toNat 4) 0 % 2 = 1
   ·rw [if_pos (decide_eq_true hc)]
    refine ⟨kvs, eD, ?_⟩
    by_cases h0 : 0 < kvs.length
    ·rw [if_pos (decide_eq_true (by omega))]
     refine ⟨kvs, eD, ks, e2, by omega, fun Ds Hs ks' ns' ss es pm' so => ?_⟩
     have lks := pm'.length_eq
     have q1 := Int.emod_nonneg (rs.getD (Int.toNat 1) 0) (show (kvs.length : Int) ≠ 0 by omega)
     have q2 := Int.emod_lt_of_pos (rs.getD (Int.toNat 1) 0) (show (0 : Int) < kvs.length by omega)
     exact ⟨_, SqL.of (ss.get e35), _, BA (by omega) (by omega), kvs, ss.get eD, _, rfl, by omega, _, SqL.of es, _, BA q1 (by omega), ⟨_, rfl⟩, ss⟩
    ·rw [if_neg (fun z => h0 (by have := of_decide_eq_true z; omega))]
     exact ⟨⟨_, rfl⟩, AL.refl _⟩
   ·rw [if_neg (fun z => hc (of_decide_eq_true z))]
    exact ⟨⟨_, rfl⟩, AL.refl _⟩
  rintro σ' H6 ⟨pl, rfl, s6⟩
  have s16 := s14.trans (s5.trans s6)
  have e36 := s6.get e35
  have eL6 := s16.get eL
  clear s14 s5 s6 e34 e35 e5 n5
  walk_at "Q"
  walk_at "RD"
  by_cases hb : w = "back"
  ·rw [if_pos (decide_eq_true hb)]
   refine ⟨_, SqL.of e36, _, BA (by omega) (by omega), _, rfl, _, .inl (SqL.of eL6), _, .inl (SqL.of eL6), by decide, fun z7 H7 n7 s7 e7 => ?_⟩
   have e37 := s7.get e36
   refine ⟨_, SqL.of e37, _, BA (by omega) (by omega), _, rfl, _, SqL.of e7, Ot rfl (by omega) (by simp only [List.length_cons, List.length_nil]; omega) fun m => ?_⟩
   exact ⟨_, SqL.of e37, _, BA (by omega) (by omega), _, rfl, by decide, fun D8 H8 n8 s8 e8 => k D8 H8 w _ _ _ (s16.free (s7.free n8)) (s16.trans (s7.trans s8)) e8 wd⟩
  rw [if_neg (fun z => hb (of_decide_eq_true z))]
  walk_at "NX"
  refine ⟨fun σ' H' => ∃ kd : Int, σ' = [some (.ref a), some (.int k0), some (.ref D), some (.ref L), some (.int v), some (.bl mx), some (.ref R), some (.str w), some (.int pool), some (.int pl), none, some (.int kd), none, none, none, none, none, none] ∧ H' = H6 ∧ 0 ≤ kd ∧ kd < 6, ?_, ?_⟩
  ·walk_at "RD"
   exact ⟨_, SqL.of e36, _, BA (by omega) (by omega), _, rfl, by omega, by omega⟩
  rintro σ' H7 ⟨kd, rfl, rfl, k0', k6⟩
  walk_at "Q"
  walk_at "RD"
  by_cases hp : w = "put"
  ·rw [if_neg (by simp [hp])]
   walk_at "NX"
   walk_at "RD"
   refine ⟨.inr ⟨by omega, by omega⟩, ?_⟩
   generalize pl * (v / 8 % 5 - 2) = ln at *
   refine ⟨fun σ' H' => ∃ A u1 u2, σ' = [some (.ref a), some (.int k0), some (.ref D), some (.ref L), some (.int v), some (.bl mx), some (.ref R), some (.str w), some (.int pool), some (.int pl), none, some (.int kd), none, none, some (.int ln), some (.ref A), none, none] ∧ AL H7 H' ∧ H' A = some (.lst [.int u1, .int u2]), ?_, ?_⟩
   ·walk_at "RD"
    walk_at "AUTO"
    exact ⟨_, _, he⟩
   rintro σ' H8 ⟨A, u1, u2, rfl, s8, e8⟩
   have e38 := s8.get e36
   refine ⟨fun σ' H' => ∃ ft : Int, σ' = [some (.ref a), some (.int k0), some (.ref D), some (.ref L), some (.int v), some (.bl mx), some (.ref R), some (.str w), some (.int pool), some (.int pl), none, some (.int kd), none, none, some (.int ln), some (.ref A), some (.int ft), none] ∧ AL H8 H', ?_, ?_⟩
   ·delta FR
    walk_at "AUTO"
    intro H' v s'
    exact ⟨_, SqL.of (s'.get e8), _, rfl, by decide, fun p H2 n2 s2 e2 => ⟨_, SqL.of e2, Ot rfl (by omega) (by simp only [List.length_cons, List.length_nil]; omega) fun i => ⟨⟨_, rfl⟩, s'.trans s2⟩⟩⟩
   rintro σ' H9 ⟨ft, rfl, s9⟩
   have e39 := s9.get e38
   have e89 := s9.get e8
   have s19 := s16.trans (s8.trans s9)
   delta FR
   walk_at "AUTO"
   intro H' v s'
   exact ⟨_, SqL.of (s'.get e89), _, rfl, by decide, fun p H2 n2 s2 e2 => ⟨_, SqL.of e2, Ot rfl (by omega) (by simp only [List.length_cons, List.length_nil]; omega) fun i => ⟨by decide, fun D8 H8 n8 s8 e8 => k D8 H8 w _ _ _ (s19.free (s'.free (s2.free n8))) (s19.trans (s'.trans (s2.trans s8))) e8 wd⟩⟩⟩
  ·rw [if_pos (by simp [hp])]
   refine ⟨fun σ' H' => ∃ on : Int, σ' = [some (.ref a), some (.int k0), some (.ref D), some (.ref L), some (.int v), some (.bl mx), some (.ref R), some (.str w), some (.int pool), some (.int pl), none, some (.int kd), some (.int on), none, none, none, none, none] ∧ AL H7 H', ?_, ?_⟩
   ·delta FR
    walk_at "AUTO"
    intro H' v s'
    exact ⟨by decide, fun p H2 n2 s2 e2 => ⟨_, SqL.of e2, Ot rfl (by omega) (by simp only [List.length_cons, List.length_nil]; omega) fun i => ⟨⟨_, rfl⟩, s'.trans s2⟩⟩⟩
   rintro σ' H9 ⟨ft, rfl, s9⟩
   have e39 := s9.get e36
   have s19 := s16.trans s9
   delta FR
   walk_at "AUTO"
   intro H' v s'
   exact ⟨by decide, fun p H2 n2 s2 e2 => ⟨_, SqL.of e2, Ot rfl (by omega) (by simp only [List.length_cons, List.length_nil]; omega) fun i => ⟨by decide, fun D8 H8 n8 s8 e8 => k D8 H8 w _ _ _ (s19.free (s'.free (s2.free n8))) (s19.trans (s'.trans (s2.trans s8))) e8 wd⟩⟩⟩
theorem Mq : AY ["_law_stands"] ["_law_stands"] (AH Fo) := by walk_at "SC"
def MO (K : PySem.W.Frag) : Sp := fun vs H Q _ => ∃ (d : Addr) (gs : List G), vs = [.ref d] ∧ BB H d gs ∧ Std gs ∧ ∀ D H' as, H D = none → AL H H' → H' D = some (.lst (as.map V.ref)) → Az H' as gs → Q (.ref D) H'
theorem MQ (T : Tx K mg) : Ay P w K mg base CX0 1 T.JG T.Hd ["_law_stands"] (MO K) := by
 refine T.D6.F.ok Mq (fun vs H Q E h => ?_) (fun cdv A outer s H vs Q E hr h => ?_)
 ·obtain ⟨d, gs, rfl, hd, sd, k⟩ := h
  rfl
 ·obtain ⟨d, gs, rfl, hd, sd, k⟩ := h
  have hu := At hr
  refine ⟨_, (AE (AI (JK rfl (⟨rfl, by decide +kernel, by decide +kernel, by decide +kernel, rfl, by decide +kernel, by with_unfolding_all rfl, by rfl, by rfl, by rfl⟩ : BU _ _ "_law_place" ["_law_stands"] [0]) (Bi (AM (Fz (by rfl)) (by rfl) T.EE DI (AA (pv 0) AD))) (fun _ _ _ _  => (Av (AA (pv 0) (AA (AG (Fb (K := K) rfl) (Qw (hu) (pv 1) (pv 0) (fun _ _ => rfl)) AB (fun _ _ => rfl)) (AA (AG (Fb (K := K) rfl) (Qw (hu) (pv 1) (pv 0) (fun _ _ => rfl)) AB (fun _ _ => rfl)) AD))))) (fun _ _ _ _ => K1)))), ?_⟩
  obtain ⟨kvs, ks, e, e2, pm, q⟩ := hd.at_
  delta JV OC
  have lk := pm.length_eq
  rw [List.length_map] at lk
  refine ⟨kvs, e, ks, e2, by have := sd.len; omega, fun D H1 ks' n1 s1 e1 pm' so => ⟨⟨_, SqL.of e1⟩, fun D2 n2 => ?_⟩⟩
  have ek : ks' = Aw gs := LC so (MW sd.asc) (pm'.trans pm)
  subst ek
  refine Pt (SqL.of e1) n2 (by have := sd.len; omega) (fun g H2 R hg s2 hR => ?_) fun H2 as s2 e3 ga => k D2 H2 as (s1.free n2) (s1.trans s2) e3 ga
  obtain ⟨a, z1, z2⟩ := q g hg
  have z3 := s2.get (s1.get z2)
  have gt : GK H2 d (V.int g.p) (some (.ref a)) := by
   have := GK.k (H := H2) (k := .inl g.p) (s2.get (s1.get e))
   rw [z1] at this
   exact this
  delta GX Option.join_some
  refine ⟨_, gt, _, rfl, _, SqT.of z3, _, rfl, _, gt, _, rfl, _, SqT.of z3, _, rfl, by decide, hR⟩
theorem O8 : AY ["_law_one", "_law_two"] ["_law_one", "_law_two"] (AH N9) := by walk_at "SC"
def Jd : Sp := fun vs H Q _ => ∃ a b : Int, vs = [.int a, .int b] ∧ 0 ≤ a ∧ 0 ≤ b ∧ Q (.int (Int.gcd a b)) H
def W_gcd (a b : Int) (H : Hp) : Nat → St → Hp → Prop := fun m σ H' => ∃ (d r : Int), m = r.toNat ∧ σ = [some (.int d), some (.int r)] ∧ H' = H ∧ 0 ≤ d ∧ 0 ≤ r ∧ Int.gcd d r = Int.gcd a b
theorem Sn (T : Tx K mg) : Ay P w K mg base CX0 1 T.RD T.Oc ["_law_one", "_law_two"] Jd := by
 refine T.K2.F.ok O8 (fun vs H Q E h => ?_) (fun cdv A outer s H vs Q E hr h => ?_)
 ·obtain ⟨a, b, rfl, ha, hb, k⟩ := h
  rfl
 ·obtain ⟨a, b, rfl, ha, hb, k⟩ := h
  have hu := At hr
  refine ⟨_, (AC (Ov PassesOwn.never (AQ EY (pv 1) AB (AS _))
    (AE (WG (i := 0) (j := 1) (by rfl) O8.nd rfl rfl (by decide) rfl rfl (AA (pv 1) (AA (AF Q0 (pv 0) (pv 1)) AD)) (by rfl))))
   (AE (AI (pv 0)))), ?_⟩
  walk_at "RD"
  refine ⟨W_gcd a b H, ⟨_, a, b, rfl, rfl, rfl, ha, hb, rfl⟩, ?_⟩
  rintro m σ H' ⟨d, r, rfl, rfl, rfl, hd, hr', e⟩
  walk_at "RDE"
  by_cases h0 : r = 0
  ·subst h0
   simp only [decide_true, Bool.not_true, Bool.false_eq_true, if_false]
   walk_at "RD"
   rw [← e, Nn hd] at k
   exact k
  ·simp only [h0, decide_false, Bool.not_false, if_true]
   refine ⟨_, fun _ _ h => h, ?_⟩
   walk_at "RD"
   have hp : 0 < r := by omega
   have hf := RH (d := d) hp
   refine ⟨h0, _, ?_, r, d.fmod r, rfl, rfl, rfl, hr', hf.1, (OV hd hp).trans e⟩
   omega
theorem IP : AY ["_law_found", "_law_k"] ["_law_found"] (AH KF) := by walk_at "SC"
def LG (K : PySem.W.Frag) : Sp := fun vs H Q _ => ∃ (q : Addr) (x y z v : Int), vs = [.ref q] ∧ H q = some (.tup [.int x, .int y, .int z, .int v]) ∧ x.natAbs ≤ 999999999 ∧ y.natAbs ≤ 999999999 ∧ z.natAbs ≤ 999999999 ∧ v.natAbs ≤ 999999999 ∧ 0 < y ∧ 0 < v ∧ Int.gcd x y = 1 ∧ Int.gcd z v = 1 ∧ ∀ H', AL H H' → Q (.bl true) H'
def Ui (q : Addr) (H : Hp) : Nat → St → Hp → Prop := fun i σ H' => ∃ x, σ = [some (.ref q), x] ∧ H' = H
theorem P5 (T : Tx K mg) : Ay P w K mg base CX0 2 T.Ng T.Li ["_law_found"] (LG K) := by
 refine T.G1.F.ok IP (fun vs H Q E h => ?_) (fun cdv A outer s H vs Q E hr h => ?_)
 ·obtain ⟨q, x, y, z, v, rfl, hq, b1, b2, b3, b4, hy, hv, g1, g2, k⟩ := h
  rfl
 ·obtain ⟨q, x, y, z, v, rfl, hq, b1, b2, b3, b4, hy, hv, g1, g2, k⟩ := h
  have hu := At hr
  refine ⟨_, (AC (Ah (GY (CO (Bc (AM CV (by rfl) T.B5 Bn (AA (pv 0) (AA (G3 (v := .ty "tuple") (by rfl) T.N2 Lu rfl) AD))))) (Ey (AQ EY (AM AU (by rfl) T.A8 Ax (AA (pv 0) AD)) AB (AS _)))).pt (AE (AI BE))
    AV)
   (AC (BO PassesOwn.never rfl (Bo (by rfl) T.Bx (AA AB AD)) (AZ (i := 1) IP.nd rfl (by walk_at "O"))
    (AE (Ah (GY (CO (Bc (AR (Ff T) (hr.mono (by decide)) (by rfl) T.BK.m T.BK.F.kp T.BK.b .nil Ad (AA (AG AT (pv 0) (pv 1) (fun _ _ => rfl)) AD)))) (Ey (AQ GB (AM ED (by rfl) T.Lz IG (AA (AG AT (pv 0) (pv 1) (fun _ _ => rfl)) AD)) AB (AS _)))).pt (AE (AI BE))
      AV)))
   (AC (BO PassesOwn.never rfl (Bi (An (AA AB (AA AB AD)))) (AZ (i := 1) IP.nd rfl (by walk_at "O"))
    (AE (Ah (GY (AQ Hz (AG AT (pv 0) (AF Al (pv 1) AB) (fun _ _ => rfl)) AB (AS _)) (Ey (AQ EY (AR (Sn T) (hr.mono (by decide)) (by rfl) T.K2.m T.K2.F.kp T.K2.b .nil Ad (AA (AM ED (by rfl) T.Lz IG (AA (AG AT (pv 0) (pv 1) (fun _ _ => rfl)) AD)) (AA (AG AT (pv 0) (AF Al (pv 1) AB) (fun _ _ => rfl)) AD))) AB (AS _)))).pt (AE (AI BE))
      AV)))
   (AE (AI BE))))), ?_⟩
  delta DK Jd
  walk_at "AUTO"
  refine ⟨4, rfl, by decide, by decide, BM (n := 4) (Ui q H) ⟨none, rfl, rfl⟩ ?_ ?_⟩
  ·rintro i σ H1 hi ⟨o, rfl, rfl⟩
   obtain ⟨u, hu', bu⟩ := atLn (P := fun u => u.natAbs ≤ 999999999) (ls := [x, y, z, v]) (e := 0 + (i : Int)) (by omega) (by simp only [List.length_cons, List.length_nil]; omega) (fun u hu => by
    simp only [List.mem_cons, List.not_mem_nil, or_false] at hu
    rcases hu with rfl | rfl | rfl | rfl <;> assumption)
   have hu' : atI [V.int x, V.int y, V.int z, V.int v] (0 + (i : Int)) = some (V.int u) := hu'
   delta DK
   walk_at "AUTO"
   exact ⟨_, rfl, rfl⟩
  ·rintro σ H1 ⟨o, rfl, rfl⟩
   refine ⟨by decide, fun p H2 hn hs he => ⟨p, rfl, ⟨_, SqL.of he⟩, EQ (xs := [.int 0, .int 2]) (Ui q H2) ⟨o, rfl, rfl⟩ ?_ ?_ ?_⟩⟩
   ·rintro i σ H3 _ ⟨o, rfl, rfl⟩
    exact SqL.of he
   ·rintro i w σ H3 hi ⟨o, rfl, rfl⟩
    rcases i with _ | _ | i
    ·cases hi
     delta Jd
     walk_at "AUTO"
     rw [Oz, g1]
     exact Qa (by simp) ⟨_, rfl, rfl⟩
    ·cases hi
     delta Jd
     walk_at "AUTO"
     rw [Oz, g2]
     exact Qa (by simp) ⟨_, rfl, rfl⟩
    ·cases hi
   ·rintro σ H3 ⟨o, rfl, rfl⟩
    exact k _ hs
theorem O1 : AY ["_law_throw_here", "_law_place", "_law_height", "_law_line"] ["_law_throw_here", "_law_place", "_law_height"] (AH Nq) := by walk_at "SC"
def Of (K : PySem.W.Frag) : Sp := fun vs H Q _ => ∃ (q : Addr) (pl h x y z v : Int), vs = [.ref q, .int pl, .int h] ∧ SqT K H q [.int x, .int y, .int z, .int v] ∧ Md x ∧ Md y ∧ Md z ∧ Md v ∧ Md pl ∧ Md h ∧ Q (.int (x * v + z * pl * y - h * y * v)) H
theorem OT (T : Tx K mg) : Ay P w K mg base CX0 1 T.Qh T.PL ["_law_throw_here", "_law_place", "_law_height"] (Of K) := by
 refine T.Fp.F.ok O1 (fun vs H Q E h => ?_) (fun cdv A outer s H vs Q E hr h => ?_)
 ·obtain ⟨q, pl, h, x, y, z, v, rfl, hq, mx, my, mz, mv, mp, mh, k⟩ := h
  rfl
 ·obtain ⟨q, pl, h, x, y, z, v, rfl, hq, mx, my, mz, mv, mp, mh, k⟩ := h
  have hu := At hr
  refine ⟨_, (AC (AJ (i := 3) O1.nd rfl (by walk_at "O") (AF Al (AF B0 (AG AT (pv 0) AB (fun _ _ => rfl)) (AG AT (pv 0) AB (fun _ _ => rfl))) (AF B0 (AF B0 (AG AT (pv 0) AB (fun _ _ => rfl)) (pv 1)) (AG AT (pv 0) AB (fun _ _ => rfl)))))
   (AE (AI (AF Am (pv 3) (AF B0 (AF B0 (pv 2) (AG AT (pv 0) AB (fun _ _ => rfl))) (AG AT (pv 0) AB (fun _ _ => rfl))))))), ?_⟩
  have s1 := mx.sm
  have s2 := my.sm
  have s3 := mz.sm
  have s4 := mv.sm
  have s5 := mp.sm
  have s6 := mh.sm
  have s7 := mz.mulS mp
  have s8 := mh.mulS my
  walk_at "RD"
  walk_at "AUTO"
  exact k
theorem UR : AY ["_law_throw_here", "_law_gate"] ["_law_throw_here", "_law_gate"] (AH QW) := by walk_at "SC"
def Q3 (K : PySem.W.Frag) : Sp := fun vs H Q _ => ∃ (p g : Addr) (a b c d pl f h : Int), vs = [.ref p, .ref g] ∧ SqT K H p [.int a, .int b, .int c, .int d] ∧ SqT K H g [.int pl, .int f, .int h] ∧ Md a ∧ Md b ∧ Md c ∧ Md d ∧ Md pl ∧ Md f ∧ Md h ∧ Q (.bl (decide (Pas a b c d pl f h))) H
theorem UJ (T : Tx K mg) : Ay P w K mg base CX0 2 T.SV T.Qg ["_law_throw_here", "_law_gate"] (Q3 K) := by
 refine T.OQ.F.ok UR (fun vs H Q E h => ?_) (fun cdv A outer s H vs Q E hr h => ?_)
 ·obtain ⟨p, g, a, b, c, d, pl, f, h, rfl, hp, hg, m1, m2, m3, m4, m5, m6, m7, k⟩ := h
  rfl
 ·obtain ⟨p, g, a, b, c, d, pl, f, h, rfl, hp, hg, m1, m2, m3, m4, m5, m6, m7, k⟩ := h
  have hu := At hr
  refine ⟨_, (AC (Ah (AQ Hz (AR (OT T) (hr.mono (by decide)) (by rfl) T.Fp.m T.Fp.F.kp T.Fp.b .nil Ad (AA (pv 0) (AA (AG AT (pv 1) AB (fun _ _ => rfl)) (AA (AG AT (pv 1) AB (fun _ _ => rfl)) AD)))) AB (AS _)) (AE (AI BE))
    AV)
   (AE (AI (BY NM (AR (OT T) (hr.mono (by decide)) (by rfl) T.Fp.m T.Fp.F.kp T.Fp.b .nil Ad (AA (pv 0) (AA (AG AT (pv 1) AB (fun _ _ => rfl)) (AA (AG AT (pv 1) AB (fun _ _ => rfl)) AD)))) AB (AS _))))), ?_⟩
  have q1 : a * d + c * pl * b - f * b * d = a * d + pl * c * b - f * (b * d) := by grind
  have q2 : a * d + c * pl * b - h * b * d = a * d + pl * c * b - h * (b * d) := by grind
  delta Of
  walk_at "AUTO"
  refine ⟨a, b, c, d, hp, m1, m2, m3, m4, m5, m6, ?_⟩
  rw [q1]
  by_cases g1 : a * d + pl * c * b - f * (b * d) < 0
  ·rw [if_pos (decide_eq_true g1)]
   have e : decide (Pas a b c d pl f h) = false := by
    unfold Pas
    exact decide_eq_false (by omega)
   rw [e] at k
   exact k
  ·rw [if_neg (by simpa using g1)]
   walk_at "AUTO"
   refine ⟨a, b, c, d, hp, m1, m2, m3, m4, m5, m7, ?_⟩
   rw [q2]
   have e : decide (Pas a b c d pl f h) = decide (a * d + pl * c * b - h * (b * d) ≤ 0) := by
    unfold Pas
    exact decide_eq_decide.mpr (by omega)
   rw [e] at k
   exact k
theorem M4 : AY ["_law_found", "_law_due", "_law_k"] ["_law_found", "_law_due"] (AH K5) := by walk_at "SC"
def M7 (K : PySem.W.Frag) : Sp := fun vs H Q _ => ∃ (x y : Addr) (xs : List Int), vs = [.ref x, .ref y] ∧ H x = some (.lst (xs.map V.int)) ∧ SqL K H y (xs.map V.int) ∧ xs.length ≤ 1000 ∧ Q (.bl true) H
def W_lst (x y : Addr) (H : Hp) : Nat → St → Hp → Prop := fun i σ H' => ∃ k, σ = [some (.ref x), some (.ref y), k] ∧ H' = H
theorem RT (T : Tx K mg) : Ay P w K mg base CX0 2 T.Ol T.My ["_law_found", "_law_due"] (M7 K) := by
 refine T.Jn.F.ok M4 (fun vs H Q E h => ?_) (fun cdv A outer s H vs Q E hr h => ?_)
 ·obtain ⟨x, y, xs, rfl, ex, ey, hl, k⟩ := h
  rfl
 ·obtain ⟨x, y, xs, rfl, ex, ey, hl, k⟩ := h
  have hu := At hr
  refine ⟨_, (AC (Ah (GY (CO (Bc (AM CV (by rfl) T.B5 Bn (AA (pv 0) (AA (G3 (v := .ty "list") (by rfl) T.Sk Q6 rfl) AD))))) (Ey (AQ EY (AM AU (by rfl) T.A8 Ax (AA (pv 0) AD)) (AM AU (by rfl) T.A8 Ax (AA (pv 1) AD)) (AS _)))).pt (AE (AI BE))
    AV)
   (AC (BO PassesOwn.never rfl (Bo (by rfl) T.Bx (AA (AM AU (by rfl) T.A8 Ax (AA (pv 1) AD)) AD)) (AZ (i := 2) M4.nd rfl (by walk_at "O"))
    (AE (Ah (GY (CO (Bc (AR (Ff T) (hr.mono (by decide)) (by rfl) T.BK.m T.BK.F.kp T.BK.b .nil Ad (AA (AG AN (pv 0) (pv 2) (fun _ _ => rfl)) AD)))) (Ey (AQ EY (AG AN (pv 0) (pv 2) (fun _ _ => rfl)) (AG AN (pv 1) (pv 2) (fun _ _ => rfl)) (AS _)))).pt (AE (AI BE))
      AV)))
   (AE (AI BE)))), ?_⟩
  walk_at "RD"
  walk_at "AUTO"
  refine ⟨_, rfl, _, rfl, _, Or.inl ey, ((xs.map V.int).length : Int), rfl, by rw [List.length_map]; omega, by rw [List.length_map]; omega, BM (n := (((xs.map V.int).length : Nat) : Int).toNat) (W_lst x y H) ⟨none, rfl, rfl⟩ ?_ ?_⟩
  ·rintro i σ H1 hi ⟨k', rfl, rfl⟩
   rw [List.length_map] at hi
   delta DK
   walk_at "AUTO"
   exact ⟨_, rfl, rfl⟩
  ·rintro σ H1 ⟨k', rfl, rfl⟩
   walk_at "RD"
   exact k
theorem NK : AY ["_law_found", "_law_row", "_law_due"] ["_law_found", "_law_row"] (AH LF) := by walk_at "SC"
def Re (K : PySem.W.Frag) : Sp := fun vs H Q _ => ∃ (D l L q : Addr) (as : List Addr) (gs : List G) (t : Thr) (sg : List G), vs = [.ref D, .ref l] ∧ Ev H D gs L q t sg ∧ SqL K H l (as.map V.ref) ∧ Az H as gs ∧ (gs.map G.p).Nodup ∧ gs.length < 64 ∧ (∀ g ∈ gs, OkG g) ∧ ∀ H', AL H H' → Q (.bl true) H'
theorem Rj (T : Tx K mg) : Ay P w K mg base CX0 3 T.O6 T.Nf ["_law_found", "_law_row"] (Re K) := by
 refine T.Jp.F.ok NK (fun vs H Q E h => ?_) (fun cdv A outer s H vs Q E hr h => ?_)
 ·obtain ⟨D, l, L, q, as, gs, t, sg, rfl, mo, hl, ga, nd, h64, ok, k⟩ := h
  rfl
 ·obtain ⟨D, l, L, q, as, gs, t, sg, rfl, mo, hl, ga, nd, h64, ok, k⟩ := h
  have hu := At hr
  refine ⟨_, (AC (Ah (GY (CO (Bc (AM CV (by rfl) T.B5 Bn (AA (pv 0) (AA (G3 (v := .ty "tuple") (by rfl) T.N2 Lu rfl) AD))))) (GY (AQ EY (AM AU (by rfl) T.A8 Ax (AA (pv 0) AD)) AB (AS _)) (Ey (CO (Bc (AR (P5 T) (hr.mono (by decide)) (by rfl) T.G1.m T.G1.F.kp T.G1.b .nil Ad (AA (AG AT (pv 0) AB (fun _ _ => rfl)) AD))))))).pt (AE (AI BE))
    AV)
   (AC (IR (i := 2) rfl NK.nd rfl (Or.inl rfl) (⟨rfl, by decide +kernel, by decide +kernel, by decide +kernel, rfl, by decide +kernel, by with_unfolding_all rfl, by rfl, by rfl, by rfl⟩ : BU _ _ "_law_gate" ["_law_found"] [0]) (Bi (AM D4 (by rfl) T.EE DI (AA (pv 1) AD))) (fun _ _ _ _  => (AG (Fb (K := K) rfl) (pv 0) AB (fun _ _ => rfl))) (fun _ _ _ _ => (K0 (Bc (AR (UJ T) (hr.mono (by decide)) (by rfl) T.OQ.m T.OQ.F.kp T.OQ.b .nil Ad (AA (AG (Fb (K := K) rfl) (pv 1) AB (fun _ _ => rfl)) (AA (pv 0) AD)))))))
   (AE (AI (AR (RT T) (hr.mono (by decide)) (by rfl) T.Jn.m T.Jn.F.kp T.Jn.b .nil Ad (AA (AG AT (pv 0) AB (fun _ _ => rfl)) (AA (pv 2) AD))))))), ?_⟩
  obtain ⟨eD, eL, eq, ot, hp0, ha0, _⟩ := id mo
  walk_at "RD"
  walk_at "AUTO"
  unfold LG
  refine ⟨_, t.a, t.b, t.c, t.d, rfl, eq, ot.a1, ot.b1, ot.c1, ot.d1, ot.b0, ot.d0, ot.g1, ot.g2, fun H2 s2 => ?_⟩
  delta JV
  walk_at "AUTO"
  refine ⟨gs, ga.same s2, nd, h64, fun S H3 as3 sg3 nS s3 e3 ga3 hp3 ha3 => ⟨⟨_, SqL.of e3⟩, fun E2 nE => ?_⟩⟩
  have esg : sg3 = sg := Eh ha3 ha0 (hp3.trans hp0.symm)
  subst esg
  have s23 := s2.trans s3
  have eD3 := s23.get eD
  have eq3 := s23.get eq
  refine GE (fun g => decide (t.pas g)) (fun g => .int g.p) (SqL.of e3) ga3 nE (by have := hp3.length_eq; omega) ?_ ?_ ?_
  ·intro v g H4 R hg s4 e4 hR
   obtain ⟨p1, p2, p3, p4, p5⟩ := ok g (hp3.mem_iff.mp hg)
   have eD4 := s4.get eD3
   delta Option.join_some
   walk_at "AUTO"
   unfold Q3
   refine ⟨_, _, t.a, t.b, t.c, t.d, g.p, g.f, g.h, rfl, SqT.of (s4.get eq3), SqT.of e4, Pr ot.a1 (by decide +kernel), Pr ot.b1 (by decide +kernel), Pr ot.c1 (by decide +kernel), Pr ot.d1 (by decide +kernel), Pr (n := 1000) (by omega) (by decide +kernel), Pr (n := 1000) (by omega) (by decide +kernel), Pr (n := 1000) (by omega) (by decide +kernel), _, rfl, hR⟩
  ·intro v g H4 R hg s4 e4 hR
   walk_at "RD"
   walk_at "AUTO"
   exact hR
  ·intro H4 s4 e4
   have ff : (sg3.filter fun g => decide (t.pas g)).length ≤ 64 := by
    have := hp3.length_eq
    exact Nat.le_trans (List.length_filter_le _ _) (by omega)
   rw [show ((sg3.filter fun g => decide (t.pas g)).map fun g => V.int g.p) = ((sg3.filter fun g => decide (t.pas g)).map G.p).map V.int by rw [List.map_map]; rfl] at e4
   unfold M7
   refine ⟨_, SqT.of (s4.get eD3), _, rfl, _, _, _, rfl, s4.get (s23.get eL), SqL.of e4, by rw [List.length_map]; omega, k _ (s23.trans s4)⟩
theorem Gy : AY ["_law_one", "_law_two", "_law_three", "_law_wide", "_law_heads", "_law_feet"] ["_law_one", "_law_two", "_law_three"] (AH LJ) := by walk_at "SC"
def NY (K : PySem.W.Frag) : Sp := fun vs H Q _ => ∃ (x y z : Addr) (a b c : G), vs = [.ref x, .ref y, .ref z] ∧ SqT K H x (G.vs a) ∧ SqT K H y (G.vs b) ∧ SqT K H z (G.vs c) ∧ OkG a ∧ OkG b ∧ OkG c ∧ Q (.bl (decide (K4 a b c))) H
theorem SB (T : Tx K mg) : Ay P w K mg base CX0 1 T.PB T.NP ["_law_one", "_law_two", "_law_three"] (NY K) := by
 refine T.JT.F.ok Gy (fun vs H Q E h => ?_) (fun cdv A outer s H vs Q E hr h => ?_)
 ·obtain ⟨x, y, z, a, b, c, rfl, ex, ey, ez, o1, o2, o3, k⟩ := h
  rfl
 ·obtain ⟨x, y, z, a, b, c, rfl, ex, ey, ez, o1, o2, o3, k⟩ := h
  have hu := At hr
  refine ⟨_, (AC (AJ (i := 3) Gy.nd rfl (by walk_at "O") (AF Am (AG AT (pv 2) AB (fun _ _ => rfl)) (AG AT (pv 0) AB (fun _ _ => rfl))))
   (AC (AJ (i := 4) Gy.nd rfl (by walk_at "O") (AF Al (AF DD (AG AT (pv 0) AB (fun _ _ => rfl)) (AF Am (AG AT (pv 2) AB (fun _ _ => rfl)) (AG AT (pv 1) AB (fun _ _ => rfl)))) (AF DD (AG AT (pv 2) AB (fun _ _ => rfl)) (AF Am (AG AT (pv 1) AB (fun _ _ => rfl)) (AG AT (pv 0) AB (fun _ _ => rfl))))))
   (AC (AJ (i := 5) Gy.nd rfl (by walk_at "O") (AF Al (AF DD (AG AT (pv 0) AB (fun _ _ => rfl)) (AF Am (AG AT (pv 2) AB (fun _ _ => rfl)) (AG AT (pv 1) AB (fun _ _ => rfl)))) (AF DD (AG AT (pv 2) AB (fun _ _ => rfl)) (AF Am (AG AT (pv 1) AB (fun _ _ => rfl)) (AG AT (pv 0) AB (fun _ _ => rfl))))))
   (AE (AI (Ug (BY GB (AF DD (AG AT (pv 1) AB (fun _ _ => rfl)) (pv 3)) (pv 4) (AS _)) (IJ (BY Hz (AF DD (AG AT (pv 1) AB (fun _ _ => rfl)) (pv 3)) (pv 5) (AS _))))))))), ?_⟩
  obtain ⟨p1, p2, p3, p4, p5⟩ := id o1
  obtain ⟨q1, q2, q3, q4, q5⟩ := id o2
  obtain ⟨r1, r2, r3, r4, r5⟩ := id o3
  walk_at "Q"
  walk_at "RD"
  walk_at "AUTO"
  walk_at "NX"
  walk_at "Q"
  walk_at "RD"
  walk_at "AUTO"
  walk_at "NX"
  walk_at "Q"
  walk_at "RD"
  walk_at "AUTO"
  walk_at "NX"
  walk_at "RD"
  walk_at "AUTO"
  by_cases hf : D0 a b c
  ·have hf2 := hf
   unfold D0 at hf2
   rw [if_pos (decide_eq_true hf2)]
   rw [decide_eq_true (show K4 a b c from .inl hf)] at k
   exact k
  ·have hf2 := hf
   unfold D0 at hf2
   rw [if_neg (fun z => hf2 (of_decide_eq_true z))]
   walk_at "AUTO"
   have e : decide (K4 a b c) = decide (Fx a b c) := by
    unfold K4
    simp only [hf, false_or]
   rw [e] at k
   exact k
theorem FD : AY ["_law_threes", "_law_chosen", "_law_three"] ["_law_threes", "_law_chosen"] (AH Dh) := by walk_at "SC"
def UC (H : Hp) (a : Addr) (x : Nat × Nat × Nat) : Prop := H a = some (.lst [.int (x.1 : Int), .int (x.2.1 : Int), .int (x.2.2 : Int)])
abbrev ixV (c : List Nat) : List V := c.map fun (i : Nat) => V.int (i : Int)
theorem QS {i : Nat} {c : List Nat} : inV (.int (i : Int)) (ixV c) = decide (i ∈ c) := by
 induction c with
 | nil => rfl
 | cons a c ih =>
  show (eqV (.int (a : Int)) (.int (i : Int)) || inV (.int (i : Int)) (ixV c)) = _
  rw [ih]
  have e : eqV (.int (a : Int)) (.int (i : Int)) = decide (i = a) := by
   show decide ((a : Int) = (i : Int)) = decide (i = a)
   exact decide_eq_decide.mpr ⟨fun z => by omega, fun z => by omega⟩
  rw [e, ← Bool.decide_or]
  exact decide_eq_decide.mpr List.mem_cons.symm
theorem OE (c : List Nat) : (ixV c).all IC = true := by
 rw [List.all_eq_true]
 intro x hx
 obtain ⟨i, _, rfl⟩ := List.mem_map.mp hx
 rfl
def UH (L : List (Nat × Nat × Nat)) (c : List Nat) : Prop := ∃ x ∈ L, x.1 ∈ c ∧ x.2.1 ∈ c ∧ x.2.2 ∈ c
def FH (K : PySem.W.Frag) : Sp := fun vs H Q _ => ∃ (t c : Addr) (ts : List Addr) (L : List (Nat × Nat × Nat)) (cs : List Nat), vs = [.ref t, .ref c] ∧ H t = some (.lst (ts.map V.ref)) ∧ Paired (UC H) ts L ∧ H c = some (.lst (ixV cs)) ∧ (UH L cs → Q (.bl true) H) ∧ (¬ UH L cs → Q (.bl false) H)
def W_h3 (t c : Addr) (L : List (Nat × Nat × Nat)) (cs : List Nat) (H : Hp) : Nat → St → Hp → Prop := fun i σ H' => ∃ o, σ = [some (.ref t), some (.ref c), o] ∧ H' = H ∧ ¬ UH (L.take i) cs
theorem KM (T : Tx K mg) : Ay P w K mg base CX0 1 T.GI T.FG ["_law_threes", "_law_chosen"] (FH K) := by
 refine T.CN.F.ok FD (fun vs H Q E h => ?_) (fun cdv A outer s H vs Q E hr h => ?_)
 ·obtain ⟨t, c, ts, L, cs, rfl, et, pr, ec, k1, k2⟩ := h
  rfl
 ·obtain ⟨t, c, ts, L, cs, rfl, et, pr, ec, k1, k2⟩ := h
  have hu := At hr
  refine ⟨_, (AC (BO PassesOwn.never rfl (Bi (pv 0)) (AZ (i := 2) FD.nd rfl (by walk_at "O"))
    (AE (Ah (De (AQ G4 (AG AN (pv 2) AB (fun _ _ => rfl)) (pv 1) (by with_unfolding_all rfl)) (De (AQ G4 (AG AN (pv 2) AB (fun _ _ => rfl)) (pv 1) (by with_unfolding_all rfl)) (C1 (AQ G4 (AG AN (pv 2) AB (fun _ _ => rfl)) (pv 1) (by with_unfolding_all rfl))))).pt (AE (AI BE))
      AV)))
   (AE (AI BE))), ?_⟩
  have lp := Paired.length pr
  walk_at "RD"
  refine ⟨_, rfl, t, rfl, ⟨_, SqL.of et⟩, EQ (xs := ts.map V.ref) (W_h3 t c L cs H) ⟨none, rfl, rfl, fun ⟨_, h, _⟩ => absurd h (by simp)⟩ (fun _ _ _ _ ⟨_, _, e, _⟩ => SqL.of (e ▸ et)) ?_ ?_⟩
  ·rintro i v σ H1 hx ⟨o, rfl, rfl, hn⟩
   have hi : i < L.length := by
    have := (List.getElem?_eq_some_iff.mp hx).1
    rw [List.length_map] at this
    omega
   obtain ⟨a, ha, ea⟩ := Paired.get pr (List.getElem?_eq_getElem hi)
   have ex : v = V.ref a := by
    rw [List.getElem?_map, ha] at hx
    exact (Option.some.inj hx).symm
   subst ex
   have hLi := List.getElem_mem hi
   have htk : L.take (i + 1) = L.take i ++ [L[i]] := List.take_succ_eq_append_getElem hi
   generalize L[i] = x at ea hLi htk
   have ea : H1 a = some (.lst [.int (x.1 : Int), .int (x.2.1 : Int), .int (x.2.2 : Int)]) := ea
   have step : ¬ (x.1 ∈ cs ∧ x.2.1 ∈ cs ∧ x.2.2 ∈ cs) → ¬ UH (L.take (i + 1)) cs := fun hno ⟨y, hy, hh⟩ => by
    rw [htk] at hy
    rcases List.mem_append.mp hy with z | z
    ·exact hn ⟨y, z, hh⟩
    ·rw [List.mem_singleton.mp z] at hh
     exact hno hh
   walk_at "RD"
   refine ⟨_, SqL.of ea, _, rfl, _, Or.inl (SqL.of ec), rfl, OE cs, ?_⟩
   rw [QS]
   by_cases h1 : x.1 ∈ cs
   ·rw [if_pos (decide_eq_true h1)]
    refine ⟨_, SqL.of ea, _, rfl, _, Or.inl (SqL.of ec), rfl, OE cs, ?_⟩
    rw [QS]
    by_cases h2 : x.2.1 ∈ cs
    ·rw [if_pos (decide_eq_true h2)]
     refine ⟨_, SqL.of ea, _, rfl, _, Or.inl (SqL.of ec), rfl, OE cs, ?_⟩
     rw [QS]
     by_cases h3 : x.2.2 ∈ cs
     ·rw [if_pos (decide_eq_true h3)]
      exact k1 ⟨x, hLi, h1, h2, h3⟩
     ·rw [if_neg (by simpa using h3)]
      exact ⟨_, rfl, rfl, step fun z => h3 z.2.2⟩
    ·rw [if_neg (by simpa using h2)]
     exact ⟨_, rfl, rfl, step fun z => h2 z.2.1⟩
   ·rw [if_neg (by simpa using h1)]
    exact ⟨_, rfl, rfl, step fun z => h1 z.1⟩
  ·rintro σ H1 ⟨o, rfl, rfl, hn⟩
   walk_at "RD"
   rw [List.length_map, lp, List.take_length] at hn
   exact k2 hn
theorem BJ : AY ["_law_row", "_law_many", "_law_threes", "_law_i", "_law_j", "_law_k", "_law_sets", "_law_chosen"] ["_law_row", "_law_many"] (AH II) := by walk_at "SC"
def Got3 (sg : List G) (L : List (Nat × Nat × Nat)) (i j k : Nat) : Prop := ∀ i' j' k', IZ sg i' j' k' → (i' < i ∨ (i' = i ∧ (j' < j ∨ (j' = j ∧ k' < k)))) → (i', j', k') ∈ L
structure Lg (H' : Hp) (D T : Addr) (as1 : List Addr) (sg : List G) (ts : List Addr) (L : List (Nat × Nat × Nat)) : Prop where
 eD : H' D = some (.lst (as1.map V.ref))
 ga : Az H' as1 sg
 eT : H' T = some (.lst (ts.map V.ref))
 pr : Paired (UC H') ts L
 ne : D ≠ T
theorem Lg.same {H H' : Hp} {D T : Addr} {as1 : List Addr} {sg : List G} {ts : List Addr} {L : List (Nat × Nat × Nat)} (h : Lg H D T as1 sg ts L) (s : AL H H') : Lg H' D T as1 sg ts L := ⟨s.get h.eD, h.ga.same s, s.get h.eT, Paired.mapP h.pr fun _ _ e => s.get e, h.ne⟩
def Lw (D T : Addr) (many : Int) (as1 : List Addr) (sg : List G) (H : Hp) (i j k : Nat) (o3 o4 o5 : Option V) : St → Hp → Prop := fun σ H' => ∃ ts L, σ = [some (.ref D), some (.int many), some (.ref T), o3, o4, o5, none, none] ∧ AL H H' ∧ Lg H' D T as1 sg ts L ∧ Got3 sg L i j k ∧ L.length ≤ (i * 20 + j) * 20 + k
def Lw1 (D T : Addr) (many : Int) (as1 : List Addr) (sg : List G) (H : Hp) : Nat → St → Hp → Prop := fun i σ H' => ∃ o3 o4 o5, Lw D T many as1 sg H i 0 0 o3 o4 o5 σ H'
def Lw2 (D T : Addr) (many : Int) (as1 : List Addr) (sg : List G) (H : Hp) (i : Nat) : Nat → St → Hp → Prop := fun j σ H' => ∃ o4 o5, Lw D T many as1 sg H i (i + 1 + j) 0 (some (.int (0 + (i : Int)))) o4 o5 σ H'
def Lw3 (D T : Addr) (many : Int) (as1 : List Addr) (sg : List G) (H : Hp) (i j : Nat) : Nat → St → Hp → Prop := fun k σ H' => ∃ o5, Lw D T many as1 sg H i (i + 1 + j) (i + 1 + j + 1 + k) (some (.int (0 + (i : Int)))) (some (.int (0 + (i : Int) + 1 + (j : Int)))) o5 σ H'
def IsSet (n : Nat) (H : Hp) (v : V) : Prop := ∃ a c, v = .ref a ∧ H a = some (.lst (ixV c)) ∧ Ixs n c
def Ls (D T : Addr) (many : Int) (H : Hp) (o4 o5 : Option V) : Nat → St → Hp → Prop := fun i σ H' => ∃ (S : Addr) (xs : List V) (o3 : Option V), σ = [some (.ref D), some (.int many), some (.ref T), o3, o4, o5, some (.ref S), none] ∧ AL H H' ∧ H' S = some (.lst xs) ∧ (∀ v ∈ xs, IsSet i H' v) ∧ xs.length ≤ 2 ^ i
def Lc (D T S : Addr) (many : Int) (H : Hp) (o3 o4 o5 : Option V) : Nat → St → Hp → Prop := fun i σ H' => ∃ o7, σ = [some (.ref D), some (.int many), some (.ref T), o3, o4, o5, some (.ref S), o7] ∧ H' = H
def Pg (K : PySem.W.Frag) : Sp := fun vs H Q _ => ∃ (l : Addr) (many : Int) (as : List Addr) (gs sg0 : List G), vs = [.ref l, .int many] ∧ SqL K H l (as.map V.ref) ∧ Az H as gs ∧ (gs.map G.p).Nodup ∧ gs.length ≤ 12 ∧ (∀ g ∈ gs, OkG g) ∧ sg0.Perm gs ∧ Asc sg0 ∧
 (∀ c : List Nat, Ixs sg0.length c → (c.length : Int) = many + 1 → ∃ i j k, i ∈ c ∧ j ∈ c ∧ k ∈ c ∧ IZ sg0 i j k) ∧ ∀ H', AL H H' → Q (.bl true) H'
theorem Od (T : Tx K mg) : Ay P w K mg base CX0 2 T.MB T.Kh ["_law_row", "_law_many"] (Pg K) := by
 refine T.Fu.F.ok BJ (fun vs H Q E h => ?_) (fun cdv A outer s H vs Q E hr h => ?_)
 ·obtain ⟨l, many, as0, gs0, sg0, rfl, hl0, ga0, nd, h12, ok0, hp0, ha0, hbar, kk⟩ := h
  rfl
 ·obtain ⟨l, many, as0, gs0, sg0, rfl, hl0, ga0, nd, h12, ok0, hp0, ha0, hbar, kk⟩ := h
  have hu := At hr
  refine ⟨_, (AC (AJ (i := 0) BJ.nd rfl (by walk_at "O") (AM D4 (by rfl) T.EE DI (AA (pv 0) AD)))
   (AC (AJ (i := 2) BJ.nd rfl (by walk_at "O") (An AD))
   (AC (BO PassesOwn.never rfl (Bo (by rfl) T.Bx (AA (AM AU (by rfl) T.A8 Ax (AA (pv 0) AD)) AD)) (AZ (i := 3) BJ.nd rfl (by walk_at "O"))
    (AE (BO PassesOwn.never rfl (KR (by rfl) T.Bx (AA (AF Al (pv 3) AB) (AA (AM AU (by rfl) T.A8 Ax (AA (pv 0) AD)) AD))) (AZ (i := 4) BJ.nd rfl (by walk_at "O"))
      (AE (BO PassesOwn.never rfl (KR (by rfl) T.Bx (AA (AF Al (pv 4) AB) (AA (AM AU (by rfl) T.A8 Ax (AA (pv 0) AD)) AD))) (AZ (i := 5) BJ.nd rfl (by walk_at "O"))
        (AE (Ah (Bc (AR (SB T) (hr.mono (by decide)) (by rfl) T.JT.m T.JT.F.kp T.JT.b .nil Ad (AA (AG AN (pv 0) (pv 3) (fun _ _ => rfl)) (AA (AG AN (pv 0) (pv 4) (fun _ _ => rfl)) (AA (AG AN (pv 0) (pv 5) (fun _ _ => rfl)) AD))))) (AE (BX (DN (pv 2) (An (AA (pv 3) (AA (pv 4) (AA (pv 5) AD)))))))
          AV)))))))
   (AC (AJ (i := 6) BJ.nd rfl (by walk_at "O") (An (AA (An AD) AD)))
   (AC (BO PassesOwn.never rfl (Bo (by rfl) T.Bx (AA (AM AU (by rfl) T.A8 Ax (AA (pv 0) AD)) AD)) (AZ (i := 3) BJ.nd rfl (by walk_at "O"))
    (AE (AJ (i := 6) BJ.nd rfl (by walk_at "O") (AF OM (pv 6) (JK rfl (⟨rfl, by decide +kernel, by decide +kernel, by decide +kernel, rfl, by decide +kernel, by with_unfolding_all rfl, by rfl, by rfl, by rfl⟩ : BU _ _ "_law_old" ["_law_many", "_law_i"] [1, 3]) (Bi (pv 6)) (fun _ _ _ _  => (AF OM (pv 0) (An (AA (pv 2) AD)))) (fun _ _ _ _ => (K0 (AQ NM (AM (Rw (K := K) rfl) (by rfl) T.A8 Ax (AA (pv 0) AD)) (pv 1) (AS _)))))))))
   (AC (BO PassesOwn.never rfl (Bi (pv 6)) (AZ (i := 7) BJ.nd rfl (by walk_at "O"))
    (AE (Ah (De (AQ A5 (AM AU (by rfl) T.A8 Ax (AA (pv 7) AD)) (AF Al (pv 1) AB) (AS _)) (C1 (CO (Bc (AR (KM T) (hr.mono (by decide)) (by rfl) T.CN.m T.CN.F.kp T.CN.b .nil Ad (AA (pv 2) (AA (pv 7) AD))))))).pt (AE (AI BE))
      AV)))
   (AE (AI BE)))))))), ?_⟩
  walk_at "RD"
  refine ⟨_, hl0, _, ga0, nd, by omega, fun D H1 as sg nD s1 e1 ga hp ha => ?_⟩
  have esg : sg = sg0 := Eh ha ha0 (hp.trans hp0.symm)
  subst esg
  refine ⟨by decide, fun T H2 nT s2 eT => ?_⟩
  have hne : D ≠ T := fun z => by rw [z] at e1; rw [e1] at nT; cases nT
  have ok : ∀ g ∈ sg, OkG g := fun g hg => ok0 g (hp.mem_iff.mp hg)
  have la := ga.len
  have lg := hp.length_eq
  have hlm : (as.map V.ref).length = sg.length := by rw [List.length_map, la]
  have nT0 : H T = none := s1.free nT
  refine ⟨_, rfl, _, rfl, _, Or.inl (SqL.of (s2.get e1)), _, rfl, by rw [hlm]; omega, by rw [hlm]; omega, BM (Lw1 D T many as sg H) ⟨none, none, none, [], [], rfl, s1.trans s2, ⟨s2.get e1, ga.same s2, eT, .nil, hne⟩, fun i' j' k' _ h => by omega, Nat.le_refl _⟩ ?_ ?_⟩
  ·rintro i σ H3 hi ⟨o3, o4, o5, ts, L, rfl, s3, lgd, got, hll⟩
   rw [hlm] at hi
   have hi' : i < sg.length := by omega
   refine ⟨_, rfl, _, _, rfl, rfl, _, rfl, _, rfl, _, Or.inl (SqL.of lgd.eD), _, _, rfl, ⟨by omega, by omega, by rw [hlm]; omega, by rw [hlm]; omega⟩, BM (Lw2 D T many as sg H i) ⟨o4, o5, ts, L, rfl, s3, lgd, fun i' j' k' hb h => got i' j' k' hb (by have := hb.1; omega), by omega⟩ ?_ ?_⟩
   ·rintro j σ H4 hj ⟨o4, o5, ts, L, rfl, s4, lgd, got, hll⟩
    rw [hlm] at hj
    have hj' : i + 1 + j < sg.length := by omega
    refine ⟨_, rfl, _, _, rfl, rfl, _, rfl, _, rfl, _, Or.inl (SqL.of lgd.eD), _, _, rfl, ⟨by omega, by omega, by rw [hlm]; omega, by rw [hlm]; omega⟩, BM (Lw3 D T many as sg H i j) ⟨o5, ts, L, rfl, s4, lgd, fun i' j' k' hb h => got i' j' k' hb (by have := hb.2.1; omega), by omega⟩ ?_ ?_⟩
    ·rintro u σ H5 hu' ⟨o5, ts, L, rfl, s5, lgd, got, hll⟩
     rw [hlm] at hu'
     have hk' : i + 1 + j + 1 + u < sg.length := by omega
     obtain ⟨a1, ha1, t1⟩ := lgd.ga.get (List.getElem?_eq_getElem hi')
     obtain ⟨a2, ha2, t2⟩ := lgd.ga.get (List.getElem?_eq_getElem hj')
     obtain ⟨a3, ha3, t3⟩ := lgd.ga.get (List.getElem?_eq_getElem hk')
     have i1 : atI (as.map V.ref) (0 + (i : Int)) = some (V.ref a1) := by rw [Int.zero_add]; exact DV ha1
     have i2 : atI (as.map V.ref) (0 + (i : Int) + 1 + (j : Int)) = some (V.ref a2) := by rw [show 0 + (i : Int) + 1 + (j : Int) = ((i + 1 + j : Nat) : Int) by omega]; exact DV ha2
     have i3 : atI (as.map V.ref) (0 + (i : Int) + 1 + (j : Int) + 1 + (u : Int)) = some (V.ref a3) := by rw [show 0 + (i : Int) + 1 + (j : Int) + 1 + (u : Int) = ((i + 1 + j + 1 + u : Nat) : Int) by omega]; exact DV ha3
     have o1 := ok _ (List.getElem_mem hi')
     have o2 := ok _ (List.getElem_mem hj')
     have o3 := ok _ (List.getElem_mem hk')
     have sl := SqL.of (K := K) lgd.eD
     have eT5 := lgd.eT
     delta NY
     refine ⟨_, sl, _, i1, _, sl, _, i2, _, sl, _, i3, _, rfl, _, rfl, _, rfl, sg[i], SqT.of t1, sg[i + 1 + j], SqT.of t2, sg[i + 1 + j + 1 + u], SqT.of t3, o1, o2, o3, ?_⟩
     have next : ∀ L', (∀ x ∈ L, x ∈ L') → (K4 sg[i] sg[i + 1 + j] sg[i + 1 + j + 1 + u] → (i, i + 1 + j, i + 1 + j + 1 + u) ∈ L') → Got3 sg L' i (i + 1 + j) (i + 1 + j + 1 + (u + 1)) := fun L' hs hb i' j' k' hb' h => by
      rcases (by omega : (i' < i ∨ (i' = i ∧ (j' < i + 1 + j ∨ (j' = i + 1 + j ∧ k' < i + 1 + j + 1 + u)))) ∨ (i' = i ∧ j' = i + 1 + j ∧ k' = i + 1 + j + 1 + u)) with z | ⟨rfl, rfl, rfl⟩
      ·exact hs _ (got i' j' k' hb' z)
      ·obtain ⟨_, _, a, b, c, f1, f2, f3, f4⟩ := hb'
       rw [List.getElem?_eq_getElem hi'] at f1
       rw [List.getElem?_eq_getElem hj'] at f2
       rw [List.getElem?_eq_getElem hk'] at f3
       cases f1
       cases f2
       cases f3
       exact hb f4
     by_cases hb : K4 sg[i] sg[i + 1 + j] sg[i + 1 + j + 1 + u]
     ·rw [if_pos (decide_eq_true hb)]
      refine ⟨⟨_, eT5⟩, by decide, fun E3 H6 n6 s6 e6 => ?_⟩
      have lg6 := lgd.same s6
      have lt := Paired.length lgd.pr
      refine ⟨_, lg6.eT, by rw [List.length_map, PySem.sizeLine_eq]; omega, some _, ts ++ [E3], L ++ [(i, i + 1 + j, i + 1 + j + 1 + u)], rfl, (s5.trans s6).updFresh nT0, ?_, next _ (fun x hx => List.mem_append_left _ hx) (fun _ => List.mem_append_right _ (by simp)), by rw [List.length_append]; simp; omega⟩
      have tup : ∀ {a : Addr} {vs : List V}, a ≠ T → H6 a = some (.lst vs) → L2.upd H6 T (.lst (ts.map V.ref ++ [.ref E3])) a = some (.lst vs) := fun hne' e => by rw [AK hne']; exact e
      refine ⟨tup hne lg6.eD, lg6.ga.upd lg6.eT (by intro ys z; cases z), by rw [AO, List.map_append]; rfl, ?_, hne⟩
      have hET : E3 ≠ T := fun z => by rw [z, eT5] at n6; cases n6
      have old : ∀ a x, UC H6 a x → UC (L2.upd H6 T (.lst (ts.map V.ref ++ [.ref E3]))) a x := fun a x e => by
       have hne' : a ≠ T := fun z => by
        subst z
        have e : H6 a = _ := e
        rw [lg6.eT] at e
        have e := congrArg (fun o => match o with | some (HO.lst (V.ref _ :: _)) => 1 | some (HO.lst []) => 2 | _ => 0) e
        cases ts <;> simp at e
       exact tup hne' e
      exact Paired.snoc (Paired.mapP lg6.pr old) (tup hET (by rw [e6]; show _ = some (HO.lst [V.int ((i : Nat) : Int), V.int ((i + 1 + j : Nat) : Int), V.int ((i + 1 + j + 1 + u : Nat) : Int)]); simp only [Int.zero_add]; norm_cast))
     ·rw [if_neg (fun z => hb (of_decide_eq_true z))]
      exact ⟨_, ts, L, rfl, s5, lgd, next _ (fun x hx => hx) (fun z => absurd z hb), by omega⟩
    ·rintro σ H5 ⟨o5, ts, L, rfl, s5, lgd, got, hll⟩
     rw [hlm] at got hll
     refine ⟨_, _, ts, L, rfl, s5, lgd, fun i' j' k' hb h => got i' j' k' hb ?_, by omega⟩
     have := hb.lt
     omega
   ·rintro σ H4 ⟨o4, o5, ts, L, rfl, s4, lgd, got, hll⟩
    rw [hlm] at got hll
    refine ⟨_, _, _, ts, L, rfl, s4, lgd, fun i' j' k' hb h => got i' j' k' hb ?_, by omega⟩
    have := hb.lt
    have := hb.2.1
    omega
  ·rintro σ H3 ⟨o3, o4, o5, ts, L, rfl, s3, lgd, got, hll⟩
   rw [hlm] at got
   have all3 : ∀ i j k, IZ sg i j k → (i, j, k) ∈ L := fun i j k hb => got i j k hb (by have := hb.lt; have := hb.1; have := hb.2.1; omega)
   clear got hll
   walk_at "RD"
   refine ⟨by decide, fun E0' H4 n4 s4 e4 => ⟨by decide, fun S0 H5 n5 s5 e5 => ?_⟩⟩
   have lg5 := (lgd.same s4).same s5
   refine ⟨_, rfl, _, rfl, _, Or.inl (SqL.of lg5.eD), _, rfl, by rw [hlm]; omega, by rw [hlm]; omega, BM (Ls D T many H5 o4 o5) ⟨S0, [.ref E0'], o3, rfl, AL.refl _, e5, fun v hv => ⟨E0', [], List.mem_singleton.mp hv, s5.get e4, List.Pairwise.nil, fun _ h => absurd h (by simp)⟩, Nat.le_refl 1⟩ ?_ ?_⟩
   ·rintro i σ H6 hi ⟨S, xs, o3, rfl, s6, eS, hset, hxl⟩
    rw [hlm] at hi
    have hxb : xs.length ≤ 4096 := Nat.le_trans hxl (Nat.le_trans (Nat.pow_le_pow_right (by decide) (show i ≤ 12 by omega)) (by decide))
    delta JV
    refine ⟨⟨_, SqL.of eS⟩, fun C nC => ?_⟩
    refine Rl (F := fun H v => ∃ a c, v = V.ref a ∧ a ≠ C ∧ H a = some (.lst (ixV c)) ∧ Ixs (i + 1) c) (fun H H' v s ⟨a, c, e1, n1, e2, e3⟩ => ⟨a, c, e1, n1, s.get e2, e3⟩) (fun H7 v zs ys e7 ⟨a, c, e1, n1, e2, e3⟩ => ⟨a, c, e1, n1, by rw [AK n1]; exact e2, e3⟩) (SqL.of eS) nC (by omega) ?_ ?_ ?_
    ·intro x H7 R hx s7 hR
     obtain ⟨a, c, rfl, e2, e3⟩ := hset x hx
     have e7 := s7.get e2
     delta Option.join_some
     walk_at "AUTO"
     exact hR _
    ·intro x H7 R hx s7 ⟨zs, eC⟩ hR
     obtain ⟨a, c, rfl, e2, e3⟩ := hset x hx
     have e7 := s7.get e2
     have hcl := e3.len
     delta Option.join_some
     refine ⟨by decide, fun B H8 n8 s8 e8 => ⟨_, s8.get e7, _, e8, by rw [List.length_map, PySem.sizeLine_eq]; simp; omega, fun P H9 n9 s9 e9 => ?_⟩⟩
     refine hR _ _ (s8.trans s9) ⟨P, c ++ [i], rfl, (fun z => by rw [z, s8.get eC] at n9; cases n9), ?_, e3.snoc⟩
     rw [e9, Int.zero_add]
     simp
    ·intro H7 ys s7 e7 hys hyl
     refine ⟨_, s7.get eS, _, e7, by rw [PySem.sizeLine_eq]; omega, fun P H8 n8 s8 e8 => ?_⟩
     refine ⟨P, xs ++ ys, _, rfl, s6.trans (s7.trans s8), e8, fun v hv => ?_, by rw [List.length_append, Nat.pow_succ]; omega⟩
     rcases List.mem_append.mp hv with z | z
     ·obtain ⟨a, c, e1, e2, e3⟩ := hset v z
      exact ⟨a, c, e1, s8.get (s7.get e2), e3.mono (Nat.le_succ _)⟩
     ·obtain ⟨a, c, e1, _, e2, e3⟩ := hys v z
      exact ⟨a, c, e1, s8.get e2, e3⟩
   ·rintro σ H6 ⟨S, xs, o3, rfl, s6, eS, hset, hxl⟩
    rw [hlm] at hset
    have lg6 := lg5.same s6
    refine ⟨_, rfl, S, rfl, ⟨_, SqL.of eS⟩, EQ (xs := xs) (Lc D T S many H6 o3 o4 o5) ⟨none, rfl, rfl⟩ (fun _ _ _ _ ⟨_, _, e⟩ => SqL.of (e ▸ eS)) ?_ ?_⟩
    ·rintro i v σ H7 hx ⟨o7, rfl, rfl⟩
     obtain ⟨a, c, rfl, e2, e3⟩ := hset v (List.mem_of_getElem? hx)
     have e3 : Ixs sg.length c := by simpa using e3
     delta FH
     refine ⟨_, Or.inl (SqL.of e2), ?_⟩
     rw [List.length_map]
     by_cases hc : (c.length : Int) = many + 1
     ·obtain ⟨i', j', k', m1, m2, m3, hb⟩ := hbar c e3 hc
      rw [if_pos (decide_eq_true hc)]
      exact ⟨ts, lg6.eT, L, lg6.pr, c, e2, fun _ => ⟨_, rfl, rfl⟩, fun hno => absurd ⟨(i', j', k'), all3 i' j' k' hb, m1, m2, m3⟩ hno⟩
     ·rw [if_neg (fun z => hc (of_decide_eq_true z))]
      exact ⟨_, rfl, rfl⟩
    ·rintro σ H7 ⟨o7, rfl, rfl⟩
     walk_at "RD"
     exact kk _ (s3.trans (s4.trans (s5.trans s6)))
theorem J3 : AY ["_law_beach", "_law_refused"] ["_law_beach"] (AH Lh) := by walk_at "SC"
def R4 {K : PySem.W.Frag} {mg : Str → Option Value} (T : Tx K mg) : Sp := fun vs H Q _ => ∃ (b S P : Addr) (ow : List Addr) (gs : List G) (past : List (List G)), vs = [.ref b] ∧ Bch T.AW H b S P ow gs past ∧ LM.Tbl H Cr Dl Kv ∧ ((gs.length = 0 ∨ 12 < gs.length) → ∀ D e H', H D = none → AL H H' → H' D = some (.lst [.bl false, .ref e]) → Q (.ref D) H') ∧ (1 ≤ gs.length → gs.length ≤ 12 → ∀ D M H' L q t sg, Bw Cr H H' → LM.Tbl H' Cr Dl Kv → H' D = some (.lst [.bl true, .ref M]) → Ev H' M gs L q t sg → Q (.ref D) H')
theorem R1 (T : Tx K mg) : Ay P w K mg base CX0 11 T.Oo T.NL ["_law_beach"] (R4 T) := by
 refine T.JU.F.ok J3 (fun vs H Q E h => ?_) (fun cdv A outer s H vs Q E hr h => ?_)
 ·obtain ⟨b, S, P, ow, gs, past, rfl, hb, tb, kE, k⟩ := h
  rfl
 ·obtain ⟨b, S, P, ow, gs, past, rfl, hb, tb, kE, k⟩ := h
  have hu := At hr
  refine ⟨_, (AC (AJ (i := 1) J3.nd rfl (by walk_at "O") BE)
   (Bt (Ta rfl rfl (fun _ _ _ hp => (AE (AI (An (AA BE (AA (NH (pv 0) T.Ag T.Fi.mt (Mn T) (hr.mono (by decide)) T.Fi.b .nil hp) AD))))))
    (PHs.cons (by rfl) T.KU (by decide) (fun _ _ => (AE (AJ (i := 1) J3.nd rfl (by walk_at "O") BE))) PHs.nil))
   (AE (AI (An (AA (Pq (pv 1)) (AA (Av AD) AD))))))), ?_⟩
  obtain ⟨dx, eb⟩ := hb.at_
  walk_at "RD"
  refine ⟨fun σ' H' => (gs.length = 0 ∨ 12 < gs.length) ∧ H' = H ∧ σ' = [some (.ref b), some (.bl true)], ?_, ?_⟩
  ·refine Pi fun N hN => ?_
   have hE : (gs.length = 0 ∨ 12 < gs.length) → N (T.err .size) [some (V.ref b), some (V.bl false)] H := fun he => by
    refine hN _ _ _ ?_
    simp only [tHs, Tx.err, T.GD, T.GO, T.Dw, T.Dc, T.Ea, T.EM, T.DY, T.EO, T.Gu, T.HR, T.EZ, T.Dq, T.Es, T.Ek, T.Dp, T.Er, T.Dv, T.EG, T.Cc, T.CG, T.Cv, T.C0, T.CH, T.C2, T.Da, T.Dy, T.CD, T.B9, T.CW, T.CU, T.B6, T.Cj, T.EF, T.Ed, T.Cq, T.Ch, T.DA, T.C8, T.Cd, T.C4, T.EN, T.En, T.Cu, T.Ck, T.C7, T.DB, T.Co, T.C9, T.DZ, T.Du, T.CJ, T.B7, T.Cm, T.Cb, T.B8, T.Ca, T.EJ, T.Ef, T.Cp, T.CY, T.C3, T.C5, T.CZ, T.C6, Option.some.injEq, exists_eq_left', if_true, Bool.false_eq_true, if_false, LD, GC, tC, List.set_cons_zero, List.set_cons_succ]
    exact ⟨he, trivial, trivial⟩
   clear hN
   delta N3
   refine ⟨dx, _, eb, rfl, b, S, P, ow, gs, past, rfl, hb, tb, hE, fun h1 h12 M H1 L q t sg nL s1 tb1 mo => ⟨by decide, fun D H2 n2 s2 e2 => ?_⟩⟩
   exact k h1 h12 D M H2 L q t sg (fun b u n e => s2.get (s1 b u n e)) (ES tb1 s2) e2 (mo.same s2)
  ·rintro σ' H1 ⟨he, rfl, rfl⟩
   walk_at "RD"
   exact ⟨by decide, fun p H2 np s2 ep => ⟨by decide, fun D H3 nD s3 eD => kE he D p H3 (s2.free nD) (s2.trans s3) eD⟩⟩
theorem G5 : AY ["_law_beach", "_law_stands", "_law_row", "_law_good", "_law_found"] ["_law_beach", "_law_stands"] (AH Le) := by walk_at "SC"
def R5 {K : PySem.W.Frag} {mg : Str → Option Value} (T : Tx K mg) : Sp := fun vs H Q _ => ∃ (b S P d : Addr) (ow : List Addr) (gs : List G) (past : List (List G)), vs = [.ref b, .ref d] ∧ Bch T.AW H b S P ow gs past ∧ BB H d gs ∧ LM.Tbl H Cr Dl Kv ∧ ∀ H', Bw Cr H H' → LM.Tbl H' Cr Dl Kv → Q (.bl true) H'
theorem NR (T : Tx K mg) : Ay P w K mg base CX0 12 T.Oy T.ND ["_law_beach", "_law_stands"] (R5 T) := by
 refine T.ER.F.ok G5 (fun vs H Q E h => ?_) (fun cdv A outer s H vs Q E hr h => ?_)
 ·obtain ⟨b, S, P, d, ow, gs, past, rfl, hb, hd, tb, k⟩ := h
  rfl
 ·obtain ⟨b, S, P, d, ow, gs, past, rfl, hb, hd, tb, k⟩ := h
  have hu := At hr
  refine ⟨_, (AC (AJ (i := 2) G5.nd rfl (by walk_at "O") (AR (MQ T) (hr.mono (by decide)) (by rfl) T.D6.m T.D6.F.kp T.D6.b .nil Ad (AA (pv 1) AD)))
   (AC (Fc (AR (R1 T) (hr.mono (by decide)) (by rfl) T.JU.m T.JU.F.kp T.JU.b .nil Ad (AA (pv 0) AD)) (S6 (n := 2) rfl (Ao (AZ (i := 3) G5.nd rfl (by walk_at "O")) (Ao (AZ (i := 4) G5.nd rfl (by walk_at "O")) Cy))))
   (AC (Ah (AQ EY (pv 3) (K9 (BY NM AB (AM AU (by rfl) T.A8 Ax (AA (pv 2) AD)) (AS _)) (IJ (BY NM (AM AU (by rfl) T.A8 Ax (AA (pv 2) AD)) AB (AS _)))) (AS _)) (AE (AI BE))
    AV)
   (AE (AI (Ug (Pq (pv 3)) (IJ (K9 (AR (Rj T) (hr.mono (by decide)) (by rfl) T.Jp.m T.Jp.F.kp T.Jp.b .nil Ad (AA (pv 4) (AA (pv 2) AD))) (IJ (AR (Od T) (hr.mono (by decide)) (by rfl) T.Fu.m T.Fu.F.kp T.Fu.b .nil Ad (AA (pv 2) (AA (AM AU (by rfl) T.A8 Ax (AA (AG AT (pv 4) AB (fun _ _ => rfl)) AD)) AD)))))))))))), ?_⟩
  walk_at "Q"
  walk_at "RD"
  refine ⟨d, gs, rfl, hd, hb.std, fun R H1 as n1 s1 e1 ga1 => ?_⟩
  have hb1 := hb.same s1
  have tb1 := ES tb s1
  have l40 := hb.std.len
  have la := ga1.len
  walk_at "NX"
  walk_at "Q"
  walk_at "RD"
  have rest : ∀ (good : Bool) (x : V) (H2 : Hp), Bw Cr H1 H2 → LM.Tbl H2 Cr Dl Kv → good = decide (1 ≤ gs.length ∧ gs.length ≤ 12) → (good = true → ∃ M L q t sg, x = V.ref M ∧ Ev H2 M gs L q t sg) → M [some (V.ref b), some (V.ref d), some (V.ref R), some (.bl good), some x] H2 := by
   intro good x H2 s2 tb2 eg hmo
   refine hM _ _ ?_
   clear hM M
   walk_at "Q"
   walk_at "RD"
   have e2 : H2 R = some (.lst (as.map V.ref)) := s2.get tb1 e1 fun _ z => by cases z
   have ga2 := s2.gs tb1 ga1
   have nx : M [some (V.ref b), some (V.ref d), some (V.ref R), some (V.bl good), some x] H2 := by
    refine hM _ _ ?_
    clear hM M
    walk_at "RD"
    cases good with
    | false =>
     rw [if_pos (by simp)]
     exact k _ ((Bw.of s1).trans s2) tb2
    | true =>
     obtain ⟨M', L, q, t, sg, rfl, mo⟩ := hmo rfl
     have g1 := (of_decide_eq_true eg.symm).1
     rw [if_neg (by simp)]
     refine ⟨M', R, L, q, as, gs, t, sg, rfl, mo, SqL.of e2, ga2, hb.std.nd, by omega, hb.std.ok, fun H3 s3 => ⟨true, rfl, ?_⟩⟩
     rw [if_pos rfl]
     refine ⟨_, rfl, _, SqT.of (s3.get mo.eD), _, rfl, _, rfl, _, .inl (SqL.of (s3.get mo.eL)), ?_⟩
     refine ⟨_, _, as, gs, sg, rfl, SqL.of (s3.get e2), ga2.same s3, hb.std.nd, by have := (of_decide_eq_true eg.symm).2; omega, hb.std.ok, mo.hp, mo.ha, fun c hc hlen => ?_, fun H4 s4 => k _ ((Bw.of s1).trans (s2.trans (Bw.of (s3.trans s4)))) (ES tb2 (s3.trans s4))⟩
     refine mo.more hb.std.ok hc ?_
     rw [List.length_map, List.length_map] at hlen
     omega
   clear hM
   refine ⟨_, .inl (SqL.of e2), ?_⟩
   rw [List.length_map, la]
   by_cases h1 : 1 ≤ gs.length
   ·rw [if_pos (decide_eq_true (by omega))]
    refine ⟨_, .inl (SqL.of e2), ?_⟩
    rw [List.length_map, la, if_neg]
    ·exact nx
    ·rw [eg]
     by_cases h12 : gs.length ≤ 12
     ·rw [decide_eq_true (show 1 ≤ gs.length ∧ gs.length ≤ 12 by omega), decide_eq_true (show (gs.length : Int) ≤ 12 by omega)]; decide
     ·rw [decide_eq_false (show ¬ (1 ≤ gs.length ∧ gs.length ≤ 12) by omega), decide_eq_false (show ¬ (gs.length : Int) ≤ 12 by omega)]; decide
   ·rw [if_neg (fun z => h1 (by have := of_decide_eq_true z; omega)), if_neg]
    ·exact nx
    ·rw [eg, decide_eq_false (show ¬ (1 ≤ gs.length ∧ gs.length ≤ 12) by omega)]; decide
  refine ⟨b, S, P, ow, gs, past, rfl, hb1, tb1, fun hE D e H2 nD s2 e2 => ?_, fun h1 h12 D M' H2 L q t sg s2 tb2 e2 mo => ?_⟩
  ·exact ⟨D, rfl, _, SqL.of e2, rfl, _, _, rfl, _, _, rfl, rfl, rest _ _ _ (Bw.of s2) (ES tb1 s2) (decide_eq_false (by omega)).symm fun z => by cases z⟩
  ·exact ⟨D, rfl, _, SqL.of e2, rfl, _, _, rfl, _, _, rfl, rfl, rest _ _ _ s2 tb2 (decide_eq_true ⟨h1, h12⟩).symm fun _ => ⟨M', L, q, t, sg, rfl, mo⟩⟩
theorem LK : AY ["_law_script", "_law_beach", "_law_stands", "_law_past", "_law_k"] ["_law_script"] (AH Q7) := by walk_at "SC"
def Qe (K : PySem.W.Frag) : Sp := fun vs H Q _ => ∃ (a : Addr) (ns : List Int), vs = [.ref a] ∧ SqL K H a (ns.map V.int) ∧ ns.length ≤ 63 ∧ LM.Tbl H Cr Dl Kv ∧ ∀ H', Q (.bl true) H'
theorem XD (T : Tx K mg) : Ay P w K mg base CX0 13 T.Ub T.Si ["_law_script"] (Qe K) := by
 refine T.d_law.F.ok LK (fun vs H Q E h => ?_) (fun cdv A outer s H vs Q E hr h => ?_)
 ·obtain ⟨a, ns, rfl, hS, hl, tb, k⟩ := h
  rfl
 ·obtain ⟨a, ns, rfl, hS, hl, tb, k⟩ := h
  have hu := At hr
  refine ⟨_, (AC (AJ (i := 1) LK.nd rfl (by walk_at "O") (So T.La (Mj T) (hr.mono (by decide)) (by rfl) T.UQ T.JL.b .nil Ad))
   (AC (AJ (i := 2) LK.nd rfl (by walk_at "O") Oe)
   (AC (AJ (i := 3) LK.nd rfl (by walk_at "O") (An AD))
   (AC (Ah (CO (Bc (AR (R6 T) (hr.mono (by decide)) (by rfl) T.Iu.m T.Iu.F.kp T.Iu.b .nil Ad (AA (pv 1) (AA (pv 2) (AA (pv 3) (AA (pv 0) (AA AB AD)))))))) (AE (AI BE))
    AV)
   (AC (BO PassesOwn.never rfl (KR (by rfl) T.Bx (AA AB (AA (AM AU (by rfl) T.A8 Ax (AA (pv 0) AD)) AD))) (AZ (i := 4) LK.nd rfl (by walk_at "O"))
    (Bt (Ah (CO (Bc (AR (KP T) (hr.mono (by decide)) (by rfl) T.CF.m T.CF.F.kp T.CF.b .nil Ad (AA (pv 1) (AA (pv 2) (AA (pv 3) (AA (AR (RO T) (hr.mono (by decide)) (by rfl) T.JN.m T.JN.F.kp T.JN.b .nil Ad (AA (pv 0) (AA (pv 4) (AA (pv 2) (AA (pv 3) AD))))) AD))))))) (AE (AI BE))
      AV)
     (AE (Ah (De (AQ A5 (AF Aa (pv 4) AB) AB (AS _)) (C1 (CO (Bc (AR (NR T) (hr.mono (by decide)) (by rfl) T.ER.m T.ER.F.kp T.ER.b .nil Ad (AA (pv 1) (AA (pv 2) AD))))))).pt (AE (AI BE))
      AV))))
   (AE (AI (AR (NR T) (hr.mono (by decide)) (by rfl) T.ER.m T.ER.F.kp T.ER.b .nil Ad (AA (pv 1) (AA (pv 2) AD)))))))))), ?_⟩
  delta GR
  refine TV fun b S0 P0 H3 nb nS nP s3 hb d H4 nd s4 e4 => ⟨by decide, fun L H5 nL s5 e5 => ?_⟩
  have s34 := s3.trans s4
  have s35 := s34.trans s5
  have fr : ∀ c ∈ [L, S0, P0], H c = none := fun c hc => by
   simp at hc
   rcases hc with rfl | rfl | rfl
   ·exact s34.free nL
   ·exact nS
   ·exact nP
  have sc5 : Scr K [L, S0, P0] H5 a (ns.map V.int) := Scr.of hS fr s35
  have hw0 : Wd T.AW H5 b S0 P0 [S0, P0] [] [] d L := ⟨hb.same (s4.trans s5), BB.nil (s5.get e4), ⟨[], e5, .nil, by simp⟩, (hb.same s4).off nL⟩
  refine ⟨b, S0, P0, d, L, a, ns, 9, rfl, sc5, hw0, by decide, by decide, fun H6 S P ow gs past kt hw => ⟨true, rfl, ?_⟩⟩
  rw [if_neg (by simp)]
  have sc6 := (sc5.kept kt).sq
  have tb6 := Pj (ES tb s35) kt
  have lm : (ns.map V.int).length = ns.length := List.length_map ..
  refine ⟨_, rfl, _, rfl, _, .inl sc6, 5, _, rfl, ⟨by omega, by omega, by omega, by omega⟩, BM (fun i σ H' => ∃ (o4 : Option V) (S P : Addr) (ow : List Addr) (gs : List G) (past : List (List G)), σ = [some (.ref a), some (.ref b), some (.ref d), some (.ref L), o4] ∧ Eo [L, S0, P0] H5 H' (L :: ow) ∧ LM.Tbl H' Cr Dl Kv ∧ Wd T.AW H' b S P ow gs past d L) ⟨_, S, P, ow, gs, past, rfl, kt.w, tb6, hw⟩ ?_ ?_⟩
  ·rintro i σ H7 hi ⟨o4, S, P, ow, gs, past, rfl, kt, tb7, hw⟩
   have hi' : 5 + i < ns.length := by omega
   clear hi
   have sc7 := (sc5.keptW kt).sq
   obtain ⟨xs, eL, lL⟩ := hw.plen
   walk_at "RD"
   refine ⟨fun σ' H' => ∃ (S P : Addr) (ow : List Addr) (gs : List G) (past : List (List G)), σ' = [some (.ref a), some (.ref b), some (.ref d), some (.ref L), some (.int (5 + (i : Int)))] ∧ Eo [L, S0, P0] H5 H' (L :: ow) ∧ LM.Tbl H' Cr Dl Kv ∧ Wd T.AW H' b S P ow gs past d L, ?_, ?_⟩
   ·walk_at "RD"
    refine ⟨a, 5 + (i : Int), ns, d, L, gs, xs, rfl, sc7, by omega, by omega, by omega, hw.dk, hw.bch.std.len, eL, fun q H8 w p x y n8 s8 e8 wd => ?_⟩
    refine ⟨b, S, P, ow, gs, past, d, L, q, w, p, x, y, rfl, SqT.of e8, hw.same s8, wd, fun H9 S1 P1 ow1 hw9 kt9 => ⟨true, rfl, ?_⟩⟩
    rw [if_neg (by simp)]
    exact ⟨S1, P1, ow1, (kt.same s8).trans kt9.w, Pj (ES tb7 s8) kt9, _, _, hw9⟩
   rintro σ' H9 ⟨S1, P1, ow1, gs1, past1, rfl, k9, tb9, hw9⟩
   walk_at "RD"
   by_cases hc : (5 + (i : Int)) % 16 = 0
   ·rw [if_pos (decide_eq_true hc)]
    refine ⟨b, S1, P1, d, ow1, gs1, past1, rfl, hw9.bch, hw9.dk, tb9, fun H10 s10 tb10 => ⟨true, rfl, ?_⟩⟩
    rw [if_neg (by simp)]
    exact ⟨⟨_, rfl⟩, S1, P1, ow1, k9.trans (Eo.ofT s10 tb9 tb10), tb10, _, _, hw9.sameT s10 tb9⟩
   ·rw [if_neg (fun z => hc (of_decide_eq_true z))]
    exact ⟨⟨_, rfl⟩, S1, P1, ow1, k9, tb9, _, _, hw9⟩
  ·rintro σ H7 ⟨o4, S, P, ow, gs, past, rfl, kt, tb7, hw⟩
   walk_at "RD"
   exact ⟨b, S, P, d, ow, gs, past, rfl, hw.bch, hw.dk, tb7, fun H8 s8 tb8 => k _⟩
end
theorem WH {l : PySem.W.OpenLaw} {w : World} {K : PySem.W.Frag} {h : Heap} {mg : Str → Option Value} {fa : Addr} (KO : QY K = RX) (X : K.In h) (G : h.Ns mainGlobals mg) (hfa : mg "law" = some (.ref fa)) :
  ∃ fd : FuncData, (∀ (s : Shared) (v : Value), BindsTo s fd ⟨[v], []⟩ [("_law_script", v)]) ∧ (∀ h', K.In h' → isCodeTable h' Cr) ∧ ∀ base : Heap, K.In base → base.Ns mainGlobals mg → Ay l.prog w K mg base CX0 13 fa fd ["_law_script"] (Qe K) := by
 obtain ⟨g0, KO⟩ := Prod.mk.inj KO
 obtain ⟨g1, KO⟩ := Prod.mk.inj KO
 obtain ⟨g2, KO⟩ := Prod.mk.inj KO
 obtain ⟨g3, KO⟩ := Prod.mk.inj KO
 obtain ⟨g4, KO⟩ := Prod.mk.inj KO
 obtain ⟨g5, KO⟩ := Prod.mk.inj KO
 obtain ⟨g6, KO⟩ := Prod.mk.inj KO
 obtain ⟨g7, KO⟩ := Prod.mk.inj KO
 obtain ⟨g8, KO⟩ := Prod.mk.inj KO
 obtain ⟨g9, KO⟩ := Prod.mk.inj KO
 obtain ⟨g10, KO⟩ := Prod.mk.inj KO
 obtain ⟨g11, KO⟩ := Prod.mk.inj KO
 obtain ⟨g12, KO⟩ := Prod.mk.inj KO
 obtain ⟨g13, KO⟩ := Prod.mk.inj KO
 obtain ⟨g14, KO⟩ := Prod.mk.inj KO
 obtain ⟨g15, KO⟩ := Prod.mk.inj KO
 obtain ⟨g16, KO⟩ := Prod.mk.inj KO
 obtain ⟨g17, KO⟩ := Prod.mk.inj KO
 obtain ⟨g18, KO⟩ := Prod.mk.inj KO
 have g19 := KO
 obtain ⟨h1, g0⟩ := List.cons.inj g0
 obtain ⟨h2, g0⟩ := List.cons.inj g0
 obtain ⟨h3, g0⟩ := List.cons.inj g0
 obtain ⟨h4, g0⟩ := List.cons.inj g0
 obtain ⟨h5, g0⟩ := List.cons.inj g0
 obtain ⟨h6, g0⟩ := List.cons.inj g0
 obtain ⟨h7, g0⟩ := List.cons.inj g0
 obtain ⟨h8, g0⟩ := List.cons.inj g0
 obtain ⟨h9, g1⟩ := List.cons.inj g1
 obtain ⟨h10, g1⟩ := List.cons.inj g1
 obtain ⟨h90, g1⟩ := List.cons.inj g1
 obtain ⟨h137, g1⟩ := List.cons.inj g1
 obtain ⟨h138, g1⟩ := List.cons.inj g1
 obtain ⟨h139, g1⟩ := List.cons.inj g1
 obtain ⟨h140, g1⟩ := List.cons.inj g1
 obtain ⟨h141, g1⟩ := List.cons.inj g1
 obtain ⟨h142, g2⟩ := List.cons.inj g2
 obtain ⟨h143, g2⟩ := List.cons.inj g2
 obtain ⟨h144, g2⟩ := List.cons.inj g2
 obtain ⟨h145, g2⟩ := List.cons.inj g2
 obtain ⟨h146, g2⟩ := List.cons.inj g2
 obtain ⟨h147, g2⟩ := List.cons.inj g2
 obtain ⟨h148, g2⟩ := List.cons.inj g2
 obtain ⟨h149, g2⟩ := List.cons.inj g2
 obtain ⟨h150, g3⟩ := List.cons.inj g3
 obtain ⟨h11, g4⟩ := List.cons.inj g4
 obtain ⟨h12, g4⟩ := List.cons.inj g4
 obtain ⟨h13, g4⟩ := List.cons.inj g4
 obtain ⟨h14, g4⟩ := List.cons.inj g4
 obtain ⟨h15, g4⟩ := List.cons.inj g4
 obtain ⟨h16, g4⟩ := List.cons.inj g4
 obtain ⟨h17, g4⟩ := List.cons.inj g4
 obtain ⟨h18, g4⟩ := List.cons.inj g4
 obtain ⟨h19, g5⟩ := List.cons.inj g5
 obtain ⟨h20, g5⟩ := List.cons.inj g5
 obtain ⟨h21, g5⟩ := List.cons.inj g5
 obtain ⟨h22, g5⟩ := List.cons.inj g5
 obtain ⟨h23, g5⟩ := List.cons.inj g5
 obtain ⟨h24, g5⟩ := List.cons.inj g5
 obtain ⟨h25, g5⟩ := List.cons.inj g5
 obtain ⟨h26, g5⟩ := List.cons.inj g5
 obtain ⟨h27, g6⟩ := List.cons.inj g6
 obtain ⟨h28, g6⟩ := List.cons.inj g6
 obtain ⟨h29, g6⟩ := List.cons.inj g6
 obtain ⟨h30, g6⟩ := List.cons.inj g6
 obtain ⟨h31, g6⟩ := List.cons.inj g6
 obtain ⟨h32, g6⟩ := List.cons.inj g6
 obtain ⟨h33, g6⟩ := List.cons.inj g6
 obtain ⟨h34, g6⟩ := List.cons.inj g6
 obtain ⟨h35, g7⟩ := List.cons.inj g7
 obtain ⟨h36, g7⟩ := List.cons.inj g7
 obtain ⟨h37, g7⟩ := List.cons.inj g7
 obtain ⟨h38, g7⟩ := List.cons.inj g7
 obtain ⟨h39, g7⟩ := List.cons.inj g7
 obtain ⟨h40, g7⟩ := List.cons.inj g7
 obtain ⟨h41, g7⟩ := List.cons.inj g7
 obtain ⟨h42, g7⟩ := List.cons.inj g7
 obtain ⟨h43, g8⟩ := List.cons.inj g8
 obtain ⟨h44, g8⟩ := List.cons.inj g8
 obtain ⟨h45, g8⟩ := List.cons.inj g8
 obtain ⟨h46, g8⟩ := List.cons.inj g8
 obtain ⟨h47, g8⟩ := List.cons.inj g8
 obtain ⟨h48, g8⟩ := List.cons.inj g8
 obtain ⟨h49, g8⟩ := List.cons.inj g8
 obtain ⟨h50, g8⟩ := List.cons.inj g8
 obtain ⟨h51, g9⟩ := List.cons.inj g9
 obtain ⟨h52, g9⟩ := List.cons.inj g9
 obtain ⟨h53, g9⟩ := List.cons.inj g9
 obtain ⟨h54, g9⟩ := List.cons.inj g9
 obtain ⟨h55, g9⟩ := List.cons.inj g9
 obtain ⟨h56, g9⟩ := List.cons.inj g9
 obtain ⟨h57, g9⟩ := List.cons.inj g9
 obtain ⟨h58, g9⟩ := List.cons.inj g9
 obtain ⟨h59, g10⟩ := List.cons.inj g10
 obtain ⟨h60, g10⟩ := List.cons.inj g10
 obtain ⟨h61, g10⟩ := List.cons.inj g10
 obtain ⟨h62, g10⟩ := List.cons.inj g10
 obtain ⟨h63, g10⟩ := List.cons.inj g10
 obtain ⟨h64, g10⟩ := List.cons.inj g10
 obtain ⟨h65, g10⟩ := List.cons.inj g10
 obtain ⟨h66, g10⟩ := List.cons.inj g10
 obtain ⟨h67, g11⟩ := List.cons.inj g11
 obtain ⟨h68, g11⟩ := List.cons.inj g11
 obtain ⟨h69, g11⟩ := List.cons.inj g11
 obtain ⟨h70, g11⟩ := List.cons.inj g11
 obtain ⟨h71, g11⟩ := List.cons.inj g11
 obtain ⟨h72, g11⟩ := List.cons.inj g11
 obtain ⟨h73, g11⟩ := List.cons.inj g11
 obtain ⟨h74, g11⟩ := List.cons.inj g11
 obtain ⟨h75, g12⟩ := List.cons.inj g12
 obtain ⟨h76, g12⟩ := List.cons.inj g12
 obtain ⟨h77, g12⟩ := List.cons.inj g12
 obtain ⟨h78, g12⟩ := List.cons.inj g12
 obtain ⟨h79, g12⟩ := List.cons.inj g12
 obtain ⟨h80, g12⟩ := List.cons.inj g12
 obtain ⟨h81, g12⟩ := List.cons.inj g12
 obtain ⟨h82, g12⟩ := List.cons.inj g12
 obtain ⟨h83, g13⟩ := List.cons.inj g13
 obtain ⟨h84, g13⟩ := List.cons.inj g13
 obtain ⟨h85, g13⟩ := List.cons.inj g13
 obtain ⟨h86, g13⟩ := List.cons.inj g13
 obtain ⟨h87, g13⟩ := List.cons.inj g13
 obtain ⟨h88, g13⟩ := List.cons.inj g13
 obtain ⟨h89, g13⟩ := List.cons.inj g13
 obtain ⟨h91, g13⟩ := List.cons.inj g13
 obtain ⟨h92, g14⟩ := List.cons.inj g14
 obtain ⟨h93, g14⟩ := List.cons.inj g14
 obtain ⟨h94, g14⟩ := List.cons.inj g14
 obtain ⟨h95, g14⟩ := List.cons.inj g14
 obtain ⟨h96, g14⟩ := List.cons.inj g14
 obtain ⟨h97, g14⟩ := List.cons.inj g14
 obtain ⟨h98, g14⟩ := List.cons.inj g14
 obtain ⟨h99, g14⟩ := List.cons.inj g14
 obtain ⟨h100, g15⟩ := List.cons.inj g15
 obtain ⟨h101, g15⟩ := List.cons.inj g15
 obtain ⟨h102, g15⟩ := List.cons.inj g15
 obtain ⟨h103, g15⟩ := List.cons.inj g15
 obtain ⟨h104, g15⟩ := List.cons.inj g15
 obtain ⟨h105, g15⟩ := List.cons.inj g15
 obtain ⟨h106, g15⟩ := List.cons.inj g15
 obtain ⟨h107, g15⟩ := List.cons.inj g15
 obtain ⟨h108, g16⟩ := List.cons.inj g16
 obtain ⟨h109, g16⟩ := List.cons.inj g16
 obtain ⟨h110, g16⟩ := List.cons.inj g16
 obtain ⟨h111, g16⟩ := List.cons.inj g16
 obtain ⟨h112, g16⟩ := List.cons.inj g16
 obtain ⟨h113, g16⟩ := List.cons.inj g16
 obtain ⟨h114, g16⟩ := List.cons.inj g16
 obtain ⟨h115, g16⟩ := List.cons.inj g16
 obtain ⟨h116, g17⟩ := List.cons.inj g17
 obtain ⟨h117, g17⟩ := List.cons.inj g17
 obtain ⟨h118, g17⟩ := List.cons.inj g17
 obtain ⟨h119, g17⟩ := List.cons.inj g17
 obtain ⟨h120, g17⟩ := List.cons.inj g17
 obtain ⟨h121, g17⟩ := List.cons.inj g17
 obtain ⟨h122, g17⟩ := List.cons.inj g17
 obtain ⟨h123, g17⟩ := List.cons.inj g17
 obtain ⟨h124, g18⟩ := List.cons.inj g18
 obtain ⟨h125, g18⟩ := List.cons.inj g18
 obtain ⟨h126, g18⟩ := List.cons.inj g18
 obtain ⟨h127, g18⟩ := List.cons.inj g18
 obtain ⟨h128, g18⟩ := List.cons.inj g18
 obtain ⟨h129, g18⟩ := List.cons.inj g18
 obtain ⟨h130, g18⟩ := List.cons.inj g18
 obtain ⟨h131, g18⟩ := List.cons.inj g18
 obtain ⟨h132, g19⟩ := List.cons.inj g19
 obtain ⟨h133, g19⟩ := List.cons.inj g19
 obtain ⟨h134, g19⟩ := List.cons.inj g19
 obtain ⟨h135, g19⟩ := List.cons.inj g19
 obtain ⟨h136, g19⟩ := List.cons.inj g19
 obtain ⟨AW, aC_Beach, pg_Beach, hd_Beach, po_Beach, sa_Beach, La, kc_Beach, na_Beach⟩ := UX h1
 obtain ⟨EB, aC_BeachError, ex_BeachError⟩ := D9 h2
 obtain ⟨A3, aC_NoGate, ex_NoGate⟩ := D9 h3
 obtain ⟨BC, aC_Taken, ex_Taken⟩ := D9 h4
 obtain ⟨Ae, aC_UpsideDown, ex_UpsideDown⟩ := D9 h5
 obtain ⟨Ac, aC_OutOfBounds, ex_OutOfBounds⟩ := D9 h6
 obtain ⟨Aj, aC_BeachFull, ex_BeachFull⟩ := D9 h7
 obtain ⟨Ai, aC_DeedsFull, ex_DeedsFull⟩ := D9 h8
 obtain ⟨Ab, aC_NothingBack, ex_NothingBack⟩ := D9 h9
 obtain ⟨Ak, aC_WrongSize, ex_WrongSize⟩ := D9 h10
 obtain ⟨f1, fd1, d1⟩ := As (ps := ["one", "two"]) X G h75 fun _ _ _ _ _ _ us hl => by obtain ⟨x0, x1, rfl⟩ := EA hl; rfl
 obtain ⟨f2, fd2, d2⟩ := As (ps := ["top", "bottom"]) X G h76 fun _ _ _ _ _ _ us hl => by obtain ⟨x0, x1, rfl⟩ := EA hl; rfl
 obtain ⟨f3, fd3, d3⟩ := As (ps := ["one", "two"]) X G h77 fun _ _ _ _ _ _ us hl => by obtain ⟨x0, x1, rfl⟩ := EA hl; rfl
 obtain ⟨f4, fd4, d4⟩ := As (ps := ["throw", "place"]) X G h78 fun _ _ _ _ _ _ us hl => by obtain ⟨x0, x1, rfl⟩ := EA hl; rfl
 obtain ⟨f5, fd5, d5⟩ := As (ps := ["place", "height", "other", "second"]) X G h79 fun _ _ _ _ _ _ us hl => by obtain ⟨x0, x1, x2, x3, rfl⟩ := QI hl; rfl
 obtain ⟨f6, fd6, d6⟩ := As (ps := ["throw", "gate"]) X G h80 fun _ _ _ _ _ _ us hl => by obtain ⟨x0, x1, rfl⟩ := EA hl; rfl
 obtain ⟨f7, fd7, d7⟩ := As (ps := ["throw", "gates"]) X G h81 fun _ _ _ _ _ _ us hl => by obtain ⟨x0, x1, rfl⟩ := EA hl; rfl
 obtain ⟨f8, fd8, d8⟩ := As (ps := ["throw", "ordered"]) X G h82 fun _ _ _ _ _ _ us hl => by obtain ⟨x0, x1, rfl⟩ := EA hl; rfl
 obtain ⟨f9, fd9, d9⟩ := As (ps := ["earlier", "later"]) X G h83 fun _ _ _ _ _ _ us hl => by obtain ⟨x0, x1, rfl⟩ := EA hl; rfl
 obtain ⟨f10, fd10, d10⟩ := As (ps := ["ordered"]) X G h84 fun _ _ _ _ _ _ us hl => by obtain ⟨x0, rfl⟩ := FN hl; rfl
 obtain ⟨f11, fd11, d11⟩ := As (ps := ["ordered"]) X G h85 fun _ _ _ _ _ _ us hl => by obtain ⟨x0, rfl⟩ := FN hl; rfl
 obtain ⟨f12, fd12, d12⟩ := As (ps := ["height"]) X G h86 fun _ _ _ _ _ _ us hl => by obtain ⟨x0, rfl⟩ := FN hl; rfl
 obtain ⟨f13, fd13, d13⟩ := As (ps := ["ordered"]) X G h87 fun _ _ _ _ _ _ us hl => by obtain ⟨x0, rfl⟩ := FN hl; rfl
 obtain ⟨f14, fd14, d14⟩ := As (ps := ["ordered"]) X G h88 fun _ _ _ _ _ _ us hl => by obtain ⟨x0, rfl⟩ := FN hl; rfl
 obtain ⟨f15, fd15, d15⟩ := As (ps := ["gates"]) X G h89 fun _ _ _ _ _ _ us hl => by obtain ⟨x0, rfl⟩ := FN hl; rfl
 obtain ⟨c15, la15, isT⟩ := LM.Tq X G d15 h90
 obtain ⟨f16, fd16, d16⟩ := As (ps := ["gate"]) X G h91 fun _ _ _ _ _ _ us hl => by obtain ⟨x0, rfl⟩ := FN hl; rfl
 obtain ⟨f17, fd17, d17⟩ := EX (ps := ["self"]) aC_Beach h92 fun _ _ _ _ _ _ us hl => by obtain ⟨x0, rfl⟩ := FN hl; rfl
 obtain ⟨f18, fd18, d18⟩ := EX (ps := ["self", "place"]) aC_Beach h93 fun _ _ _ _ _ _ us hl => by obtain ⟨x0, x1, rfl⟩ := EA hl; rfl
 obtain ⟨f19, fd19, d19⟩ := EX (ps := ["self", "place"]) aC_Beach h94 fun _ _ _ _ _ _ us hl => by obtain ⟨x0, x1, rfl⟩ := EA hl; rfl
 obtain ⟨f20, fd20, d20⟩ := EX (ps := ["self", "place", "instead"]) aC_Beach h95 fun _ _ _ _ _ _ us hl => by obtain ⟨x0, x1, x2, rfl⟩ := O2 hl; rfl
 obtain ⟨f21, fd21, d21⟩ := EX (ps := ["self", "place", "foot", "head"]) aC_Beach h96 fun _ _ _ _ _ _ us hl => by obtain ⟨x0, x1, x2, x3, rfl⟩ := QI hl; rfl
 obtain ⟨f22, fd22, d22⟩ := EX (ps := ["self", "place"]) aC_Beach h97 fun _ _ _ _ _ _ us hl => by obtain ⟨x0, x1, rfl⟩ := EA hl; rfl
 obtain ⟨f23, fd23, d23⟩ := EX (ps := ["self", "place", "foot_by", "head_by"]) aC_Beach h98 fun _ _ _ _ _ _ us hl => by obtain ⟨x0, x1, x2, x3, rfl⟩ := QI hl; rfl
 obtain ⟨f24, fd24, d24⟩ := EX (ps := ["self", "place", "foot_by", "head_by"]) aC_Beach h99 fun _ _ _ _ _ _ us hl => by obtain ⟨x0, x1, x2, x3, rfl⟩ := QI hl; rfl
 obtain ⟨f25, fd25, d25⟩ := UW (ps := ["self", "many"]) aC_Beach h100 (fun s d _ _ _ _ _ _ _ _ _ _ _ us ho hl => by obtain ⟨x0, x1, rfl⟩ := EA hl; exact BindsTo.of_defaults (T := d) rfl ho rfl rfl rfl) (fun s d _ _ _ _ _ _ _ _ _ _ _ us ho hl => by obtain ⟨x0, rfl⟩ := FN (Nat.succ.inj hl); exact BindsTo.of_defaults (T := d) rfl ho rfl rfl rfl)
 obtain ⟨f26, fd26, d26⟩ := EX (ps := ["self"]) aC_Beach h101 fun _ _ _ _ _ _ us hl => by obtain ⟨x0, rfl⟩ := FN hl; rfl
 obtain ⟨f27, fd27, d27⟩ := EX (ps := ["self"]) aC_Beach h102 fun _ _ _ _ _ _ us hl => by obtain ⟨x0, rfl⟩ := FN hl; rfl
 obtain ⟨f28, fd28, d28⟩ := EX (ps := ["self"]) aC_Beach h103 fun _ _ _ _ _ _ us hl => by obtain ⟨x0, rfl⟩ := FN hl; rfl
 obtain ⟨f29, fd29, d29⟩ := As (ps := ["_law_script", "_law_k"]) X G h104 fun _ _ _ _ _ _ us hl => by obtain ⟨x0, x1, rfl⟩ := EA hl; rfl
 obtain ⟨f30, fd30, d30⟩ := As (ps := ["_law_cell", "_law_many", "_law_mixed"]) X G h105 fun _ _ _ _ _ _ us hl => by obtain ⟨x0, x1, x2, rfl⟩ := O2 hl; rfl
 obtain ⟨f31, fd31, d31⟩ := As (ps := ["_law_kind", "_law_line", "_law_wide", "_law_low", "_law_high"]) X G h106 fun _ _ _ _ _ _ us hl => by obtain ⟨x0, x1, x2, x3, x4, rfl⟩ := len5 hl; rfl
 obtain ⟨f32, fd32, d32⟩ := As (ps := ["_law_script", "_law_at_here", "_law_many"]) X G h107 fun _ _ _ _ _ _ us hl => by obtain ⟨x0, x1, x2, rfl⟩ := O2 hl; rfl
 obtain ⟨f33, fd33, d33⟩ := As (ps := ["_law_found"]) X G h108 fun _ _ _ _ _ _ us hl => by obtain ⟨x0, rfl⟩ := FN hl; rfl
 obtain ⟨f34, fd34, d34⟩ := As (ps := ["_law_found", "_law_due"]) X G h109 fun _ _ _ _ _ _ us hl => by obtain ⟨x0, x1, rfl⟩ := EA hl; rfl
 obtain ⟨f35, fd35, d35⟩ := As (ps := ["_law_stands", "_law_deed_here"]) X G h110 fun _ _ _ _ _ _ us hl => by obtain ⟨x0, x1, rfl⟩ := EA hl; rfl
 obtain ⟨f36, fd36, d36⟩ := As (ps := ["_law_stands", "_law_past", "_law_deed_here"]) X G h111 fun _ _ _ _ _ _ us hl => by obtain ⟨x0, x1, x2, rfl⟩ := O2 hl; rfl
 obtain ⟨f37, fd37, d37⟩ := As (ps := ["_law_beach", "_law_deed_here"]) X G h112 fun _ _ _ _ _ _ us hl => by obtain ⟨x0, x1, rfl⟩ := EA hl; rfl
 obtain ⟨f38, fd38, d38⟩ := As (ps := ["_law_stands", "_law_past", "_law_deed_here"]) X G h113 fun _ _ _ _ _ _ us hl => by obtain ⟨x0, x1, x2, rfl⟩ := O2 hl; rfl
 obtain ⟨f39, fd39, d39⟩ := As (ps := ["_law_beach", "_law_stands", "_law_past", "_law_deed_here"]) X G h114 fun _ _ _ _ _ _ us hl => by obtain ⟨x0, x1, x2, x3, rfl⟩ := QI hl; rfl
 obtain ⟨f40, fd40, d40⟩ := As (ps := ["_law_script"]) X G h115 fun _ _ _ _ _ _ us hl => by obtain ⟨x0, rfl⟩ := FN hl; rfl
 obtain ⟨f41, fd41, d41⟩ := As (ps := ["_law_beach", "_law_stands", "_law_past", "_law_script", "_law_most_here"]) X G h116 fun _ _ _ _ _ _ us hl => by obtain ⟨x0, x1, x2, x3, x4, rfl⟩ := len5 hl; rfl
 obtain ⟨f42, fd42, d42⟩ := As (ps := ["_law_draw"]) X G h117 fun _ _ _ _ _ _ us hl => by obtain ⟨x0, rfl⟩ := FN hl; rfl
 obtain ⟨f43, fd43, d43⟩ := As (ps := ["_law_script", "_law_k", "_law_stands", "_law_past"]) X G h118 fun _ _ _ _ _ _ us hl => by obtain ⟨x0, x1, x2, x3, rfl⟩ := QI hl; rfl
 obtain ⟨f44, fd44, d44⟩ := As (ps := ["_law_stands"]) X G h119 fun _ _ _ _ _ _ us hl => by obtain ⟨x0, rfl⟩ := FN hl; rfl
 obtain ⟨f45, fd45, d45⟩ := As (ps := ["_law_one", "_law_two"]) X G h120 fun _ _ _ _ _ _ us hl => by obtain ⟨x0, x1, rfl⟩ := EA hl; rfl
 obtain ⟨f46, fd46, d46⟩ := As (ps := ["_law_found"]) X G h121 fun _ _ _ _ _ _ us hl => by obtain ⟨x0, rfl⟩ := FN hl; rfl
 obtain ⟨f47, fd47, d47⟩ := As (ps := ["_law_throw_here", "_law_place", "_law_height"]) X G h122 fun _ _ _ _ _ _ us hl => by obtain ⟨x0, x1, x2, rfl⟩ := O2 hl; rfl
 obtain ⟨f48, fd48, d48⟩ := As (ps := ["_law_throw_here", "_law_gate"]) X G h123 fun _ _ _ _ _ _ us hl => by obtain ⟨x0, x1, rfl⟩ := EA hl; rfl
 obtain ⟨f49, fd49, d49⟩ := As (ps := ["_law_found", "_law_due"]) X G h124 fun _ _ _ _ _ _ us hl => by obtain ⟨x0, x1, rfl⟩ := EA hl; rfl
 obtain ⟨f50, fd50, d50⟩ := As (ps := ["_law_found", "_law_row"]) X G h125 fun _ _ _ _ _ _ us hl => by obtain ⟨x0, x1, rfl⟩ := EA hl; rfl
 obtain ⟨f51, fd51, d51⟩ := As (ps := ["_law_one", "_law_two", "_law_three"]) X G h126 fun _ _ _ _ _ _ us hl => by obtain ⟨x0, x1, x2, rfl⟩ := O2 hl; rfl
 obtain ⟨f52, fd52, d52⟩ := As (ps := ["_law_threes", "_law_chosen"]) X G h127 fun _ _ _ _ _ _ us hl => by obtain ⟨x0, x1, rfl⟩ := EA hl; rfl
 obtain ⟨f53, fd53, d53⟩ := As (ps := ["_law_row", "_law_many"]) X G h128 fun _ _ _ _ _ _ us hl => by obtain ⟨x0, x1, rfl⟩ := EA hl; rfl
 obtain ⟨f54, fd54, d54⟩ := As (ps := ["_law_beach"]) X G h129 fun _ _ _ _ _ _ us hl => by obtain ⟨x0, rfl⟩ := FN hl; rfl
 obtain ⟨f55, fd55, d55⟩ := As (ps := ["_law_beach", "_law_stands"]) X G h130 fun _ _ _ _ _ _ us hl => by obtain ⟨x0, x1, rfl⟩ := EA hl; rfl
 obtain ⟨f56, oc, od, sl, kV, dc, pm, an, cd, ct, a, l, c, k⟩ := RC h131
 obtain ⟨t_LEAST, ak_LEAST⟩ := JD h132
 obtain ⟨t_GREATEST, ak_GREATEST⟩ := JD h133
 obtain ⟨t_MOST_GATES, ak_MOST_GATES⟩ := JD h134
 obtain ⟨t_MOST_DEEDS, ak_MOST_DEEDS⟩ := JD h135
 obtain ⟨t_SMALL_BEACH, ak_SMALL_BEACH⟩ := JD h136
 have e := hfa.symm.trans (PySem.W.mg_of X G a)
 cases e
 let T : Tx K mg := ⟨AW,
  PySem.W.mg_of X G aC_Beach,
  ⟨pg_Beach, hd_Beach, po_Beach, sa_Beach⟩,
  na_Beach "standing" (by simp only [List.mem_cons, true_or, or_true]),
  na_Beach "past" (by simp only [List.mem_cons, true_or, or_true]),
  EB,
  PySem.W.mg_of X G aC_BeachError,
  ex_BeachError,
  A3,
  PySem.W.mg_of X G aC_NoGate,
  ex_NoGate,
  BC,
  PySem.W.mg_of X G aC_Taken,
  ex_Taken,
  Ae,
  PySem.W.mg_of X G aC_UpsideDown,
  ex_UpsideDown,
  Ac,
  PySem.W.mg_of X G aC_OutOfBounds,
  ex_OutOfBounds,
  Aj,
  PySem.W.mg_of X G aC_BeachFull,
  ex_BeachFull,
  Ai,
  PySem.W.mg_of X G aC_DeedsFull,
  ex_DeedsFull,
  Ab,
  PySem.W.mg_of X G aC_NothingBack,
  ex_NothingBack,
  Ak,
  PySem.W.mg_of X G aC_WrongSize,
  ex_WrongSize,
  AX aC_NoGate aC_NoGate h11,
  AX aC_NoGate aC_Taken h12,
  AX aC_NoGate aC_UpsideDown h13,
  AX aC_NoGate aC_OutOfBounds h14,
  AX aC_NoGate aC_BeachFull h15,
  AX aC_NoGate aC_DeedsFull h16,
  AX aC_NoGate aC_NothingBack h17,
  AX aC_NoGate aC_WrongSize h18,
  AX aC_Taken aC_NoGate h19,
  AX aC_Taken aC_Taken h20,
  AX aC_Taken aC_UpsideDown h21,
  AX aC_Taken aC_OutOfBounds h22,
  AX aC_Taken aC_BeachFull h23,
  AX aC_Taken aC_DeedsFull h24,
  AX aC_Taken aC_NothingBack h25,
  AX aC_Taken aC_WrongSize h26,
  AX aC_UpsideDown aC_NoGate h27,
  AX aC_UpsideDown aC_Taken h28,
  AX aC_UpsideDown aC_UpsideDown h29,
  AX aC_UpsideDown aC_OutOfBounds h30,
  AX aC_UpsideDown aC_BeachFull h31,
  AX aC_UpsideDown aC_DeedsFull h32,
  AX aC_UpsideDown aC_NothingBack h33,
  AX aC_UpsideDown aC_WrongSize h34,
  AX aC_OutOfBounds aC_NoGate h35,
  AX aC_OutOfBounds aC_Taken h36,
  AX aC_OutOfBounds aC_UpsideDown h37,
  AX aC_OutOfBounds aC_OutOfBounds h38,
  AX aC_OutOfBounds aC_BeachFull h39,
  AX aC_OutOfBounds aC_DeedsFull h40,
  AX aC_OutOfBounds aC_NothingBack h41,
  AX aC_OutOfBounds aC_WrongSize h42,
  AX aC_BeachFull aC_NoGate h43,
  AX aC_BeachFull aC_Taken h44,
  AX aC_BeachFull aC_UpsideDown h45,
  AX aC_BeachFull aC_OutOfBounds h46,
  AX aC_BeachFull aC_BeachFull h47,
  AX aC_BeachFull aC_DeedsFull h48,
  AX aC_BeachFull aC_NothingBack h49,
  AX aC_BeachFull aC_WrongSize h50,
  AX aC_DeedsFull aC_NoGate h51,
  AX aC_DeedsFull aC_Taken h52,
  AX aC_DeedsFull aC_UpsideDown h53,
  AX aC_DeedsFull aC_OutOfBounds h54,
  AX aC_DeedsFull aC_BeachFull h55,
  AX aC_DeedsFull aC_DeedsFull h56,
  AX aC_DeedsFull aC_NothingBack h57,
  AX aC_DeedsFull aC_WrongSize h58,
  AX aC_NothingBack aC_NoGate h59,
  AX aC_NothingBack aC_Taken h60,
  AX aC_NothingBack aC_UpsideDown h61,
  AX aC_NothingBack aC_OutOfBounds h62,
  AX aC_NothingBack aC_BeachFull h63,
  AX aC_NothingBack aC_DeedsFull h64,
  AX aC_NothingBack aC_NothingBack h65,
  AX aC_NothingBack aC_WrongSize h66,
  AX aC_WrongSize aC_NoGate h67,
  AX aC_WrongSize aC_Taken h68,
  AX aC_WrongSize aC_UpsideDown h69,
  AX aC_WrongSize aC_OutOfBounds h70,
  AX aC_WrongSize aC_BeachFull h71,
  AX aC_WrongSize aC_DeedsFull h72,
  AX aC_WrongSize aC_NothingBack h73,
  AX aC_WrongSize aC_WrongSize h74,
  f1, fd1, d1,
  f2, fd2, d2,
  f3, fd3, d3,
  f4, fd4, d4,
  f5, fd5, d5,
  f6, fd6, d6,
  f7, fd7, d7,
  f8, fd8, d8,
  f9, fd9, d9,
  f10, fd10, d10,
  f11, fd11, d11,
  f12, fd12, d12,
  f13, fd13, d13,
  f14, fd14, d14,
  f15, fd15, d15,
  c15, la15,
  f16, fd16, d16,
  f17, fd17, d17,
  f18, fd18, d18,
  f19, fd19, d19,
  f20, fd20, d20,
  f21, fd21, d21,
  f22, fd22, d22,
  f23, fd23, d23,
  f24, fd24, d24,
  f25, fd25, d25,
  f26, fd26, d26,
  f27, fd27, d27,
  f28, fd28, d28,
  f29, fd29, d29,
  f30, fd30, d30,
  f31, fd31, d31,
  f32, fd32, d32,
  f33, fd33, d33,
  f34, fd34, d34,
  f35, fd35, d35,
  f36, fd36, d36,
  f37, fd37, d37,
  f38, fd38, d38,
  f39, fd39, d39,
  f40, fd40, d40,
  f41, fd41, d41,
  f42, fd42, d42,
  f43, fd43, d43,
  f44, fd44, d44,
  f45, fd45, d45,
  f46, fd46, d46,
  f47, fd47, d47,
  f48, fd48, d48,
  f49, fd49, d49,
  f50, fd50, d50,
  f51, fd51, d51,
  f52, fd52, d52,
  f53, fd53, d53,
  f54, fd54, d54,
  f55, fd55, d55,
  _, _, ⟨Jz l c k, PySem.W.mg_of X G a, (Jz l c k).binds (ps := ["_law_script"]) fun _ _ _ _ _ _ us hl => by obtain ⟨x0, rfl⟩ := FN hl; rfl⟩,
  ⟨La, d17.mt.1, d17.mt.2, kc_Beach⟩,
  _,
  PySem.W.mg_of X G ak_LEAST,
  ⟨_, rfl⟩,
  _,
  PySem.W.mg_of X G ak_GREATEST,
  ⟨_, rfl⟩,
  _,
  PySem.W.mg_of X G ak_MOST_GATES,
  ⟨_, rfl⟩,
  _,
  PySem.W.mg_of X G ak_MOST_DEEDS,
  ⟨_, rfl⟩,
  _,
  PySem.W.mg_of X G ak_SMALL_BEACH,
  ⟨_, rfl⟩,
  PySem.W.mg_none_of X G (Bs h137),
  PySem.W.mg_none_of X G (Bs h138),
  PySem.W.mg_none_of X G (Bs h139),
  PySem.W.mg_none_of X G (Bs h140),
  PySem.W.mg_none_of X G (Bs h141),
  PySem.W.mg_none_of X G (Bs h142),
  PySem.W.mg_none_of X G (Bs h143),
  PySem.W.mg_none_of X G (Bs h144),
  PySem.W.mg_none_of X G (Bs h145),
  PySem.W.mg_none_of X G (Bs h146),
  PySem.W.mg_none_of X G (Bs h147),
  PySem.W.mg_none_of X G (Bs h148),
  PySem.W.mg_none_of X G (Bs h149),
  PySem.W.mg_none_of X G (Bs h150)⟩
 exact ⟨_, fun s v => .of_eq rfl, isT, fun base _ _ => XD T⟩
end TG
open PySem PySem.W PyProof.Rows
set_option maxRecDepth 100000 in
set_option maxHeartbeats 0 in
theorem PySem.Challenge.cw_throwgate_k41_whole_most_holds : PySem.Challenge.rw_throwgate_k41_whole_most.Holds := by
 w_on; o_law
 refine holds_open (q := TG.qv) (loose := TG.J6) (Xt := fun _ => true) (XP := fun _ _ => True) (Yf := fun s => (LM.Gs (s.heap.get? TG.Cr), TG.QY (TG.Kof TG.addrs s.heap))) (Ya := fun _ => (true, TG.RX)) (YP := LM.JF TG.Cr TG.addrs TG.QY TG.RX) (N := 8630) TG.left (fun w s e => LM.JF.of (by decide) w s e) LM.JF.keeps (fun _ _ => trivial) (fun _ _ _ _ _ => trivial) (by rfl) (by rfl) (by rfl) (fun _ _ => TG.Vl rfl) rfl (by assumption) (by decide +kernel) ⟨rfl, rfl, rfl, rfl, rfl, by decide +kernel⟩ ?hw ?hc
 case hw => w_witness2
 case hc =>
  exact LM.TK (T := TG.Cr) (l := PySem.Challenge.rw_throwgate_k41_whole_most) (n := 63) (k := 13) (x := "_law_script") (CX := L2.CX0) (sp := TG.Qe) rfl (by decide) rfl ⟨rfl, by decide, by decide⟩ (fun w mg fa h K KO KX G hmg => TG.WH KO KX G hmg) (fun _ _ a ns hl hO hS => ⟨a, ns, rfl, hS, hl, .inl hO.1, fun _ => rfl⟩) fun _ _ _ _ z => z
