import PyProof.Rows.All
import Wide.All
import OpenK.AllK
import Wide.FinOn
import Lean
import PyProof.EqAt
import PyProof.EqKinds
import PyProof.TupleCall
import KE.KMinKey
import PySem.Challenge.RW_throwgate_k45_whole_told_again
set_option bootstrap.genMatcherCode false
set_option genSizeOf false
set_option Elab.async false
set_option linter.all false
set_option maxRecDepth 100000
namespace L2
open PySem PySem.Spec PyProof.Rows
noncomputable abbrev Key := Sum Int Str
noncomputable def Nk : Key → Value → Bool
 | .inl k, v => Value.isInt k v
 | .inr x, v => Value.isStrOf x v
noncomputable def keyH (w : World) : Key → Int
 | .inl k => hashInt k
 | .inr x => hashStr w x
theorem BM : ∀ {k : Key} {v : Value}, Nk k v = true → (∃ i t, k = Sum.inl i ∧ v = Value.int i t) ∨ (∃ x t, k = Sum.inr x ∧ v = Value.str x t)
 | .inl i, v, h => by
  obtain ⟨t, e⟩ := Value.isInt_shape (k := i) (v := v) h
  exact .inl ⟨i, t, rfl, e⟩
 | .inr x, v, h => by
  obtain ⟨t, e⟩ := Value.isStrOf_shape (x := x) (v := v) h
  exact .inr ⟨x, t, rfl, e⟩
theorem Uh (i : Int) (t : Tok) : Nk (.inl i) (.int i t) = true := by simp [Nk, Value.isInt]
theorem Uu (x : Str) (t : Tok) : Nk (.inr x) (.str x t) = true := by simp [Nk, Value.isStrOf]
theorem YE (a b : Int) : decide ((Sum.inl a : Key) = Sum.inl b) = (a == b) := by
 by_cases e : a = b
 ·subst e; simp
 ·have h : ¬ (Sum.inl a : Key) = Sum.inl b := fun q => e (Sum.inl.inj q)
  rw [decide_eq_false h]
  exact (beq_eq_false_iff_ne.mpr e).symm
theorem Zi (a b : Str) : decide ((Sum.inr a : Key) = Sum.inr b) = decide (a = b) := by
 by_cases e : a = b
 ·subst e; simp
 ·have h : ¬ (Sum.inr a : Key) = Sum.inr b := fun q => e (Sum.inr.inj q)
  rw [decide_eq_false h, decide_eq_false e]
theorem Zb (a : Int) (b : Str) : decide ((Sum.inl a : Key) = Sum.inr b) = false := decide_eq_false (fun q => nomatch q)
theorem ZG (a : Str) (b : Int) : decide ((Sum.inr a : Key) = Sum.inl b) = false := decide_eq_false (fun q => nomatch q)
noncomputable def BJ (prog : Program) (w : World) : PySem.KeyKind prog w Key where
 is := Nk
 hash := keyH w
 inj := fun v a b ha hb => by
  rcases BM ha with ⟨i, t, rfl, rfl⟩ | ⟨x, t, rfl, rfl⟩
  ·rcases BM hb with ⟨j, u, rfl, e⟩ | ⟨y, u, rfl, e⟩
   ·injection e with e1 _; rw [e1]
   ·exact nomatch e
  ·rcases BM hb with ⟨j, u, rfl, e⟩ | ⟨y, u, rfl, e⟩
   ·exact nomatch e
   ·injection e with e1 _; rw [e1]
 byValue := fun k v h => by
  rcases BM h with ⟨i, t, rfl, rfl⟩ | ⟨x, t, rfl, rfl⟩ <;> rfl
 pyHash := fun hv h => by
  rcases BM hv with ⟨i, t, rfl, rfl⟩ | ⟨x, t, rfl, rfl⟩
  ·exact wpAny_pyHash_int h
  ·exact wpAny_pyHash_str h
 eqBool := fun hu hv h => by
  rcases BM hu with ⟨i, t, rfl, rfl⟩ | ⟨x, t, rfl, rfl⟩
  ·rcases BM hv with ⟨j, u, rfl, rfl⟩ | ⟨y, u, rfl, rfl⟩
   ·rw [YE] at h; exact wpAny_eqBool_int h
   ·rw [Zb] at h; exact SeqAt.EqAt.int_str i t y u _ _ _ _ h
  ·rcases BM hv with ⟨j, u, rfl, rfl⟩ | ⟨y, u, rfl, rfl⟩
   ·rw [ZG] at h; exact SeqAt.EqAt.str_int x t j u _ _ _ _ h
   ·rw [Zi] at h; exact wpAny_eqBool_str h
 «strs» := fun k x t v h => by
  rcases BM h with ⟨i, u, rfl, e⟩ | ⟨y, u, rfl, e⟩
  ·exact nomatch e
  ·injection e with e1 _
   subst e1
   cases v <;> rfl
theorem RZ (prog : Program) (w : World) (i : Int) (t : Tok) : (BJ prog w).is (.inl i) (.int i t) = true := Uh i t
theorem Rj (prog : Program) (w : World) (x : Str) (t : Tok) : (BJ prog w).is (.inr x) (.str x t) = true := Uu x t
inductive V where
 | non | bl (b : Bool) | int (i : Int) | str (x : Str) | byt (b : Array UInt8) | flt (b : UInt64) | ref (a : Addr) | ty (n : String)
 deriving DecidableEq
noncomputable def RelV : V → Value → Prop
 | .non, u => u = Value.none
 | .bl b, u => u = Value.bool b
 | .int i, u => ∃ t, u = Value.int i t
 | .str x, u => ∃ t, u = Value.str x t
 | .byt b, u => ∃ t, u = Value.bytes b t
 | .flt b, u => ∃ t, u = Value.float b t
 | .ref a, u => u = Value.ref a
 | .ty n, u => u = Value.type n
noncomputable abbrev As : List V → List Value → Prop := Paired RelV
theorem As.length {xs : List V} {us : List Value} (r : As xs us) : xs.length = us.length := Paired.length r
theorem As.get : ∀ {xs : List V} {us : List Value} {i : Nat} {x : V}, As xs us → xs[i]? = some x → ∃ u, us[i]? = some u ∧ RelV x u
 | _, _, _, _, .nil, e => by simp at e
 | _, _, 0, _, .cons r _, e => by simp at e; subst e; exact ⟨_, rfl, r⟩
 | _, _, i + 1, x, .cons _ t, e => by
  obtain ⟨u, h1, h2⟩ := As.get (i := i) (x := x) t (by simpa using e)
  exact ⟨u, by simpa using h1, h2⟩
theorem As.set {x : V} {u : Value} (r : RelV x u) : ∀ {xs : List V} {us : List Value} (i : Nat), As xs us → As (xs.set i x) (us.set i u)
 | _, _, _, .nil => .nil
 | _, _, 0, .cons _ t => .cons r t
 | _, _, i + 1, .cons q t => .cons q (As.set r i t)
theorem As.append : ∀ {xs ys : List V} {us ws : List Value}, As xs us → As ys ws → As (xs ++ ys) (us ++ ws)
 | _, _, _, _, .nil, s => s
 | _, _, _, _, .cons r t, s => .cons r (As.append t s)
theorem As.take : ∀ {xs : List V} {us : List Value} (n : Nat), As xs us → As (xs.take n) (us.take n)
 | _, _, 0, _ => .nil
 | _, _, _ + 1, .nil => .nil
 | _, _, n + 1, .cons r t => .cons r (As.take n t)
theorem As.drop : ∀ {xs : List V} {us : List Value} (n : Nat), As xs us → As (xs.drop n) (us.drop n)
 | _, _, 0, r => r
 | _, _, _ + 1, .nil => .nil
 | _, _, n + 1, .cons _ t => As.drop n t
noncomputable def GK : Option V → Option Value → Prop
 | some v, some u => RelV v u
 | none, none => True
 | _, _ => False
noncomputable def KV {κ : Type} : List (κ × V) → List (κ × Value) → Prop := Paired fun (p : κ × V) (q : κ × Value) => p.1 = q.1 ∧ RelV p.2 q.2
noncomputable def kV : Key → V
 | .inl i => .int i
 | .inr x => .str x
inductive HO where
 | lst (xs : List V)
 | tup (xs : List V)
 | dK (kvs : List (Key × V)) | dT (kvs : List (List Key × V))
 | set (S : Int → Bool) (n : Nat)
 | ins (C dx : Addr) (fs : List (Str × V))
 | own (x : Addr)
 | xd (fs : List (Str × V))
 | met (f x : Addr)
 | rng (lo hi : Int)
 | frz (o : Obj) (u : HO)
 | tbl (ps : Array Value)
 | ext (φ : Heap → Prop)
noncomputable abbrev Hp := Addr → Option HO
noncomputable def upd (H : Hp) (a : Addr) (o : HO) : Hp := fun b => if b = a then some o else H b
theorem AQ {H : Hp} {a : Addr} {o : HO} : upd H a o a = some o := by unfold upd; rw [if_pos rfl]
theorem AN {H : Hp} {a b : Addr} {o : HO} (h : b ≠ a) : upd H a o b = H b := by unfold upd; rw [if_neg h]
theorem Be {H : Hp} {a b : Addr} {o u : HO} (h : H a = some o) (h' : H b = some u) (d : o ≠ u) : a ≠ b := by
 intro e; subst e; rw [h] at h'; exact d (Option.some.inj h')
theorem An {H : Hp} {a b : Addr} {o : HO} (h : H a = some o) (h' : H b = none) : a ≠ b := by
 intro e; subst e; rw [h] at h'; cases h'
section
variable (P : Program) (w : World)
noncomputable def BU (H : Hp) (h : Heap) (a : Addr) : HO → Prop
 | .lst xs => xs.length ≤ sizeLine ∧ ∃ (its : List Value) (n : Nat), As xs its ∧ h.get? a = some { cls := .type "list", data := .seq its.toArray n }
 | .tup xs => xs.length ≤ sizeLine ∧ ∃ its : List Value, As xs its ∧ IsTup h a its.toArray
 | .dK kvs => kvs.length ≤ sizeLine ∧ (a == sysModules) = false ∧ ∃ vs, KV kvs vs ∧ h.DictOf (BJ P w) a vs
 | .dT kvs => kvs.length ≤ sizeLine ∧ (a == sysModules) = false ∧ ∃ xs : List (List Key × Addr × Value),
   Paired (fun (p : List Key × V) (q : List Key × Addr × Value) => p.1 = q.1 ∧ H q.2.1 = some (.tup (p.1.map kV)) ∧ RelV p.2 q.2.2) kvs xs ∧
   ∃ o es ep, h.get? a = some o ∧ o.ExactDict ∧ o.data = .dict es ep ∧ es.toList = xs.map (entryOfKey (tupleKind (BJ P w))) ∧ (xs.map (·.1)).Nodup
 | .set S n => h.SetOf (intKind P w) a S n
 | .ins C dx fs => H dx = some (.own a) ∧ fs.length ≤ 1000 ∧ dx ≠ a ∧ h.get? a = some (PySem.W.instObj C dx) ∧
   ∃ mA, h.Ns1 dx mA ∧ (∀ f, GK (fs.lookup f) (mA f)) ∧ PySem.Within mA (fs.map (·.1))
 | .own _ => ∃ o, h.get? a = some o
 | .xd fs => ∃ mA, h.Ns1 a mA ∧ ∀ f, GK (fs.lookup f) (mA f)
 | .rng lo hi => ∃ t u v, h.get? a = some { cls := .type "range", data := .fields #[.int lo t, .int hi u, .int 1 v] }
 | .frz o u => h.get? a = some o ∧ BU H h a u
 | .tbl ps => h.get? a = some { cls := .none, data := .fields ps }
 | .met f x => h.get? a = some (PySem.W.methodObj (.ref f) (.ref x))
 | .ext φ => φ h ∧ (∃ o, h.get? a = some o) ∧ ∀ h1 h2 : Heap, φ h1 → (∀ o, h1.get? a = some o → h2.get? a = some o) → φ h2
noncomputable def HOk (H : Hp) (h : Heap) : Prop := ∀ a o, H a = some o → BU P w H h a o
end
section
variable {P : Program} {w : World} {H H' : Hp} {h h' : Heap} {a : Addr} {o : HO}
theorem BU.lt (x : BU P w H h a o) : a < h.objs.size := by
 cases o with
 | lst xs => obtain ⟨_, _, _, _, e⟩ := x; exact Heap.lt_size e
 | tup xs => obtain ⟨_, _, _, p⟩ := x; exact p.lt
 | dK kvs => obtain ⟨_, _, _, _, o, _, _, e, _⟩ := x; exact Heap.lt_size e
 | dT kvs => obtain ⟨_, _, _, _, o, _, _, e, _⟩ := x; exact Heap.lt_size e
 | set S n => obtain ⟨o, _, _, _, e, _⟩ := x; exact Heap.lt_size e
 | ins C dx fs => obtain ⟨_, _, _, e, _⟩ := x; exact Heap.lt_size e
 | own y => obtain ⟨_, e⟩ := x; exact Heap.lt_size e
 | xd fs => obtain ⟨_, ⟨_, _, _, e, _⟩, _⟩ := x; exact Heap.lt_size e
 | rng lo hi => obtain ⟨_, _, _, e⟩ := x; exact Heap.lt_size e
 | frz ob u => obtain ⟨e, _⟩ := x; exact Heap.lt_size e
 | tbl ps => exact Heap.lt_size (show h.get? a = some _ from x)
 | met f y => exact Heap.lt_size (show h.get? a = some _ from x)
 | ext φ => obtain ⟨_, ⟨_, e⟩, _⟩ := x; exact Heap.lt_size e
theorem Paired.mapP {α β : Type} {F G : α → β → Prop} : ∀ {l₁ : List α} {l₂ : List β}, Paired F l₁ l₂ → (∀ a b, F a b → G a b) → Paired G l₁ l₂
 | _, _, .nil, _ => .nil
 | _, _, .cons r t, f => .cons (f _ _ r) (Paired.mapP t f)
theorem BU.stay (x : BU P w H h a o) (k : ∀ b u, (b = a ∨ H b = some (.own a)) → h.get? b = some u → h'.get? b = some u)
  (ho : ∀ b, H b = some (.own a) → H' b = some (.own a)) (ht : ∀ b xs, H b = some (.tup xs) → H' b = some (.tup xs)) : BU P w H' h' a o := by
 induction o with
 | lst xs => obtain ⟨z, its, n, r, e⟩ := x; exact ⟨z, its, n, r, k _ _ (.inl rfl) e⟩
 | tup xs => obtain ⟨z, its, r, ob, e, c⟩ := x; exact ⟨z, its, r, ob, k _ _ (.inl rfl) e, c⟩
 | dK kvs => obtain ⟨z, y, vs, r, ob, es, ep, e, c⟩ := x; exact ⟨z, y, vs, r, ob, es, ep, k _ _ (.inl rfl) e, c⟩
 | dT kvs =>
  obtain ⟨z, y, xs, r, ob, es, ep, e, c⟩ := x
  exact ⟨z, y, xs, Paired.mapP r fun p q z => ⟨z.1, ht _ _ z.2.1, z.2.2⟩, ob, es, ep, k _ _ (.inl rfl) e, c⟩
 | set S n => obtain ⟨ob, es, ep, t, e, c⟩ := x; exact ⟨ob, es, ep, t, k _ _ (.inl rfl) e, c⟩
 | ins C dx fs =>
  obtain ⟨d, z, ne, e, mA, ⟨od, es, ep, e2, c⟩, r⟩ := x
  exact ⟨ho _ d, z, ne, k _ _ (.inl rfl) e, mA, ⟨od, es, ep, k _ _ (.inr d) e2, c⟩, r⟩
 | own y => obtain ⟨ob, e⟩ := x; exact ⟨ob, k _ _ (.inl rfl) e⟩
 | xd fs => obtain ⟨mA, ⟨od, es, ep, e, c⟩, r⟩ := x; exact ⟨mA, ⟨od, es, ep, k _ _ (.inl rfl) e, c⟩, r⟩
 | rng lo hi => obtain ⟨t, u, v, e⟩ := x; exact ⟨t, u, v, k _ _ (.inl rfl) e⟩
 | frz ob u ih => obtain ⟨e, q⟩ := x; exact ⟨k _ _ (.inl rfl) e, ih q⟩
 | tbl ps =>
  have e : h.get? a = some { cls := .none, data := .fields ps } := x
  show h'.get? a = some { cls := .none, data := .fields ps }
  exact k a _ (.inl rfl) e
 | met f y =>
  have e : h.get? a = some (PySem.W.methodObj (.ref f) (.ref y)) := x
  show h'.get? a = some (PySem.W.methodObj (.ref f) (.ref y))
  exact k a _ (.inl rfl) e
 | ext φ => obtain ⟨p, ⟨o, e⟩, st⟩ := x; exact ⟨st _ _ p fun o q => k _ _ (.inl rfl) q, ⟨o, k _ _ (.inl rfl) e⟩, st⟩
theorem HOk.lt (x : HOk P w H h) (e : H a = some o) : a < h.objs.size := (x a o e).lt
theorem HOk.fresh (x : HOk P w H h) (e : h.objs.size ≤ a) : H a = none := by
 cases q : H a with
 | none => rfl
 | some u => exact absurd (Nat.lt_of_lt_of_le (x.lt q) e) (Nat.lt_irrefl _)
theorem HOk.kept (x : HOk P w H h) (k : ∀ b u, h.get? b = some u → h'.get? b = some u) : HOk P w H h' := fun a o e =>
 (x a o e).stay (fun b u _ q => k b u q) (fun _ q => q) fun _ _ q => q
theorem HOk.laid (x : HOk P w H h) (k : ∀ b u, h.get? b = some u → h'.get? b = some u) (hp : h.objs.size ≤ a) (new : BU P w (upd H a o) h' a o) : HOk P w (upd H a o) h' := fun b u e => by
 have hn := x.fresh hp
 by_cases hb : b = a
 ·subst hb; rw [AQ] at e; cases e; exact new
 ·rw [AN hb] at e
  exact (x b u e).stay (fun c v _ q => k c v q) (fun c q => by rw [AN (An q hn)]; exact q) fun c xs q => by rw [AN (An q hn)]; exact q
end
noncomputable def Rd (H : Hp) (a : Addr) (u : HO) : Prop := H a = some u ∨ ∃ o, H a = some (.frz o u)
theorem Rd.ok {P : Program} {w : World} {H : Hp} {h : Heap} {a : Addr} {u : HO} (r : Rd H a u) (x : HOk P w H h) : BU P w H h a u := by
 rcases r with r | ⟨o, r⟩
 ·exact x a u r
 ·obtain ⟨_, q⟩ := x a _ r
  exact q
noncomputable def Mut : Option HO → Prop
 | some (.lst _) => True
 | some (.dK _) => True
 | some (.dT _) => True
 | some (.set _ _) => True
 | some (.ins _ _ _) => True
 | some (.ext _) => True
 | _ => False
section
variable {P : Program} {w : World} {H : Hp} {h h' : Heap} {x e : Addr} {o' : HO}
theorem HOk.write (ok : HOk P w H h) (mu : Mut (H x)) (he : e = x ∨ H e = some (.own x)) (k : ∀ b u, b ≠ e → h.get? b = some u → h'.get? b = some u) (heo : ∃ u, h'.get? e = some u)
  (new : BU P w (upd H x o') h' x o') : HOk P w (upd H x o') h' := fun b u q => by
 have nown : ∀ c y, H c = some (.own y) → c ≠ x := fun c y r z => by subst z; rw [r] at mu; exact mu
 have ntup : ∀ c xs, H c = some (.tup xs) → c ≠ x := fun c xs r z => by subst z; rw [r] at mu; exact mu
 by_cases hb : b = x
 ·subst hb; rw [AQ] at q; cases q; exact new
 ·rw [AN hb] at q
  by_cases hbe : b = e
  ·have q' : H b = some (.own x) := by
    rcases he with z | z
    ·exact absurd (hbe.trans z) hb
    ·rw [hbe]; exact z
   rw [q] at q'; cases q'
   obtain ⟨v, hv⟩ := heo
   exact ⟨v, by rw [hbe]; exact hv⟩
  ·refine (ok b u q).stay (fun c v hc r => k c v ?_ r) (fun c r => by rw [AN (nown c b r)]; exact r) fun c xs r => by rw [AN (ntup c xs r)]; exact r
   rcases hc with rfl | hc
   ·exact hbe
   ·rintro rfl
    rcases he with z | z
    ·exact nown c b hc z
    ·rw [hc] at z; cases z; exact hb rfl
end
structure Un (fs ex : List Addr) (H H' : Hp) (h h' : Heap) : Prop where
 keep : ∀ b o, h.get? b = some o → H b = none → b ∉ fs → b ∉ ex → h'.get? b = some o
 slot : ∀ b o, h.get? b = some o → H b = none → b ∈ fs → b ∉ ex → ∃ sl, h'.get? b = some { o with slots := sl }
 free : ∀ b o, h.get? b = some o → H b = none → b ∉ ex → H' b = none
 there : ∀ b o, h.get? b = some o → b ∉ ex → ∃ o', h'.get? b = some o'
 tups : ∀ b xs, H b = some (.tup xs) → H' b = some (.tup xs)
 frzs : ∀ b o u, H b = some (.frz o u) → H' b = some (.frz o u)
 tbls : ∀ b ps, H b = some (.tbl ps) → ∃ more, H' b = some (.tbl (ps ++ more))
section
variable {fs fs' ex ex' : List Addr} {H H1 H2 : Hp} {h h1 h2 h' : Heap} {a x e : Addr} {o : HO}
theorem Un.any (u : Un fs ex H H1 h h1) {b : Addr} {ob : Obj} (q : h.get? b = some ob) (n : H b = none) (hx : b ∉ ex) : ∃ sl, h1.get? b = some { ob with slots := sl } := by
 by_cases hb : b ∈ fs
 ·exact u.slot b ob q n hb hx
 ·exact ⟨ob.slots, u.keep b ob q n hb hx⟩
theorem Un.kept (k : ∀ b u, h.get? b = some u → h'.get? b = some u) : Un fs ex H H h h' :=
 ⟨fun b ob q _ _ _ => k b ob q, fun b ob q _ _ _ => ⟨ob.slots, k b ob q⟩, fun _ _ _ n _ => n, fun b ob q _ => ⟨ob, k b ob q⟩, fun _ _ q => q, fun _ _ _ q => q, fun _ ps q => ⟨#[], by rw [q]; simp⟩⟩
theorem Un.refl : Un fs ex H H h h := Un.kept fun _ _ q => q
theorem Un.laid (k : ∀ b u, h.get? b = some u → h'.get? b = some u) (hp : h.objs.size ≤ a) (hn : H a = none) : Un fs ex H (upd H a o) h h' where
 keep := fun b u q _ _ _ => k b u q
 slot := fun b u q _ _ _ => ⟨u.slots, k b u q⟩
 free := fun b u q n _ => by rw [AN (Nat.ne_of_lt (Nat.lt_of_lt_of_le (Heap.lt_size q) hp))]; exact n
 there := fun b u q _ => ⟨u, k b u q⟩
 tups := fun b xs q => by rw [AN (An q hn)]; exact q
 frzs := fun b u xs q => by rw [AN (An q hn)]; exact q
 tbls := fun b ps q => ⟨#[], by rw [AN (An q hn), q]; simp⟩
theorem Un.write (mu : Mut (H x)) (he : e = x ∨ H e = some (.own x)) (k : ∀ b u, b ≠ e → h.get? b = some u → h'.get? b = some u) (heo : ∃ u, h'.get? e = some u) : Un fs ex H (upd H x o) h h' := by
 have hx : ∀ b, H b = none → b ≠ x := fun b n z => by subst z; rw [n] at mu; exact mu
 have hb : ∀ b, H b = none → b ≠ e := fun b n z => by
  subst z
  rcases he with r | r
  ·exact hx b n r
  ·rw [n] at r; cases r
 have hm : ∀ b u, H b = some u → ¬ Mut (some u) → b ≠ x := fun b u q nm z => by subst z; rw [q] at mu; exact nm mu
 refine ⟨fun b u q n _ _ => k b u (hb b n) q, fun b u q n _ _ => ⟨u.slots, k b u (hb b n) q⟩, fun b u q n _ => by rw [AN (hx b n)]; exact n, fun b u q _ => ?_,
  fun b xs q => by rw [AN (hm b _ q fun z => z)]; exact q, fun b u xs q => by rw [AN (hm b _ q fun z => z)]; exact q, fun b ps q => ⟨#[], by rw [AN (hm b _ q fun z => z), q]; simp⟩⟩
 by_cases hbe : b = e
 ·subst hbe; exact heo
 ·exact ⟨u, k b u hbe q⟩
end
noncomputable def trk (h : Heap) (H : Hp) : List Addr := (List.range h.objs.size).filter fun a => (H a).isSome
noncomputable def RC (h : Heap) (H : Hp) : Heap := PySem.W.hideAll h (trk h H)
theorem VB (h : Heap) (H : Hp) : (RC h H).objs.size = h.objs.size := PySem.W.hideAll_size _ _
theorem V0 {h : Heap} {H : Hp} {b : Addr} {o : Obj} (e : h.get? b = some o) (n : H b = none) : (RC h H).get? b = some o :=
 PySem.W.hideAll_get _ e fun hm => by
  have q : (H b).isSome = true := (List.mem_filter.mp hm).2
  rw [n] at q; simp at q
theorem W1 {h : Heap} {H : Hp} {b : Addr} {o : Obj} (e : (RC h H).get? b = some o) : h.get? b = some o ∧ H b = none := by
 have e' : h.get? b = some o := PySem.W.of_hideAll (trk h H) e
 refine ⟨e', ?_⟩
 cases q : H b with
 | none => rfl
 | some x =>
  have hm : b ∈ trk h H := List.mem_filter.mpr ⟨List.mem_range.mpr (Heap.lt_size e'), by simp [q]⟩
  have z : (RC h H).get? b = none := PySem.W.hideAll_none (trk h H) hm
  rw [z] at e; cases e
structure Mod (K : PySem.W.Frag) (mg : Str → Option Value) (base : Heap) : Prop where
 kin : K.In base
 glob : base.Ns mainGlobals mg
 blt : ∃ mb, base.Ns builtinsNs mb ∧ ∀ x : Str, x ≠ "__name__" → mb x = bootBuiltins x
 nolimit : base.NoLimit
structure Cx where
 prog : Program
 w : World
 K : PySem.W.Frag
 mg : Str → Option Value
 base : Heap
 A : Around
 N : List Str
 s₀ : Shared
 H₀ : Hp
 env : Env
 outer : List Env
 stack : List Env
 ex : List Addr
 fn : Str → Bool
 calm : Bool
 pn : List (Addr × Obj)
 xe : Value → Shared → Prop
noncomputable def frs (l : List Env) : List Addr := l.filterMap (·.frame)
noncomputable abbrev Cx.fs (X : Cx) : List Addr := frs X.outer
noncomputable def Vis (sc : Scope) (x : Str) : Prop := sc.names.lookup x = some .local ∨ sc.names.lookup x = some .cell ∨ sc.names.lookup x = some .free
noncomputable def Loc (sc : Scope) (x : Str) : Prop := sc.names.lookup x = some .local ∨ sc.names.lookup x = some .cell
noncomputable def Look (env : Env) (h : Heap) (m : Str → Option Value) (x : Str) (u : Value) : Prop :=
 (env.kindOf x = some .local ∧ m x = some u) ∨ ((env.kindOf x = some .cell ∨ env.kindOf x = some .free) ∧ ∃ c, env.cells.lookup x = some c ∧ h.IsCell c (some u))
structure Cx.Ok (X : Cx) : Prop where
 mod : Mod X.K X.mg X.base
 kind : X.env.scope.kind = .function
 glob : X.env.globals = mainGlobals
 blt : X.env.builtins = builtinsNs
 above : X.s₀.heap.objs.size ≤ X.env.locals
 inj : ∀ x y c, X.env.cells.lookup x = some c → X.env.cells.lookup y = some c → x = y
 has : ∀ x, (X.env.kindOf x = some .cell ∨ X.env.kindOf x = some .free) → ∃ c, X.env.cells.lookup x = some c
 cab : ∀ x c, X.fn x = true → X.env.cells.lookup x = some c → X.s₀.heap.objs.size ≤ c
 hd : X.calm = true → X.A.handled = none
 frames : X.A.frames = some X.stack
 stk : X.stack = X.outer ∨ (X.stack = X.env :: X.outer ∧ X.env.frame = some X.env.locals)
 exf : ∀ b ∈ X.ex, b ≠ X.env.locals ∧ ∀ x c, X.env.cells.lookup x = some c → c ≠ b
 bs : ∀ b o, X.base.get? b = some o → X.s₀.heap.get? b = some o ∧ X.H₀ b = none
 bsz : X.base.objs.size ≤ X.s₀.heap.objs.size
 noex : ∀ b o, X.base.get? b = some o → b ∉ X.ex
 exfs : ∀ b ∈ X.ex, b ∉ X.fs
 funs : X.s₀.heap.FunFrames X.base X.outer
 frf : ∀ b ∈ X.fs, X.H₀ b = none
structure Inv (X : Cx) (pins : List (Addr × Obj)) (σ : List (Option V)) (H : Hp) (s : Shared) : Prop where
 ok : X.Ok
 os : s.os = X.s₀.os
 bare : AllBare s.gens
 base : Un X.fs X.ex X.H₀ H X.s₀.heap s.heap
 loc : ∃ m, s.heap.Ns X.env.locals m ∧ ∀ (i : Nat) (x : Str) (v : V), X.N[i]? = some x → σ[i]? = some (some v) → Vis X.env.scope x → ∃ u, RelV v u ∧ Look X.env s.heap m x u
 cell : ∀ x c, X.env.cells.lookup x = some c → ∃ v, s.heap.IsCell c v
 free : H X.env.locals = none
 freeC : ∀ x c, X.env.cells.lookup x = some c → H c = none
 pin : ∀ p ∈ X.pn ++ pins, s.heap.get? p.1 = some p.2 ∧ H p.1 = none ∧ p.1 ≠ X.env.locals ∧ p.1 ∉ X.fs ∧ ∀ v, p.2.data ≠ .cell v
 hok : HOk X.prog X.w H s.heap
 len : σ.length = X.N.length
section
variable {X : Cx} {pins : List (Addr × Obj)} {σ : List (Option V)} {H H' : Hp} {s : Shared} {h' : Heap}
theorem Cx.Ok.nofr (ok : X.Ok) {b : Addr} {o : Obj} (e : X.base.get? b = some o) : b ∉ X.fs := fun hb => by
 have := (ok.funs.mem hb).1
 rw [e] at this; cases this
theorem Inv.bs (I : Inv X pins σ H s) : ∀ b o, X.base.get? b = some o → s.heap.get? b = some o ∧ H b = none := fun b o e =>
 ⟨I.base.keep b o (I.ok.bs b o e).1 (I.ok.bs b o e).2 (I.ok.nofr e) (I.ok.noex b o e), I.base.free b o (I.ok.bs b o e).1 (I.ok.bs b o e).2 (I.ok.noex b o e)⟩
theorem Inv.bk (I : Inv X pins σ H s) : ∀ b o, X.base.get? b = some o → s.heap.get? b = some o := fun b o e => (I.bs b o e).1
theorem Inv.mod (I : Inv X pins σ H s) : Mod X.K X.mg X.base := I.ok.mod
theorem Inv.kIn (I : Inv X pins σ H s) : X.K.In s.heap := I.ok.mod.kin.keeps I.bk
theorem Inv.lt (I : Inv X pins σ H s) : X.env.locals < s.heap.objs.size := let ⟨_, hn, _⟩ := I.loc; hn.lt
theorem Inv.sz (I : Inv X pins σ H s) : X.s₀.heap.objs.size ≤ s.heap.objs.size := Nat.le_trans I.ok.above (Nat.le_of_lt I.lt)
theorem Inv.nofs (I : Inv X pins σ H s) {a : Addr} (h : s.heap.objs.size ≤ a) : a ∉ X.fs := fun hb => by
 obtain ⟨_, o, ho, _⟩ := I.ok.funs.mem hb
 exact absurd (Nat.lt_of_lt_of_le (Heap.lt_size ho) (Nat.le_trans I.sz h)) (Nat.lt_irrefl _)
theorem Inv.cne (I : Inv X pins σ H s) : ∀ x c, X.env.cells.lookup x = some c → c ≠ X.env.locals := fun x c e z => by
 obtain ⟨v, o, ho, hd⟩ := I.cell x c e
 obtain ⟨m, ⟨o', es, ep, ho', hd', _⟩, _⟩ := I.loc
 rw [z, ho'] at ho; cases ho; rw [hd'] at hd; cases hd
theorem Inv.funs (I : Inv X pins σ H s) : s.heap.FunFrames X.base X.outer := by
 have all : ∀ (l : List Env), (∀ b ∈ frs l, b ∈ X.fs) → X.s₀.heap.FunFrames X.base l → s.heap.FunFrames X.base l := by
  intro l
  induction l with
  | nil => intro _ _; trivial
  | cons env r ih =>
   intro hs hl
   obtain ⟨hk, ⟨L, o, hf, hn, ho, hd⟩, hr⟩ := hl
   have hL : L ∈ X.fs := hs L (by unfold frs; rw [List.filterMap_cons, hf]; exact List.mem_cons_self)
   obtain ⟨sl, e⟩ := I.base.slot L o ho (I.ok.frf L hL) hL fun z => I.ok.exfs L z hL
   exact ⟨hk, ⟨L, _, hf, hn, e, hd⟩, ih (fun b hb => hs b (by unfold frs; rw [List.filterMap_cons, hf]; exact List.mem_cons_of_mem _ hb)) hr⟩
 exact all X.outer (fun _ hb => hb) I.ok.funs
theorem Inv.stack (I : Inv X pins σ H s) : s.heap.FunFrames X.base X.stack := by
 rcases I.ok.stk with e | ⟨e, hf⟩
 ·rw [e]; exact I.funs
 ·rw [e]
  obtain ⟨m, hn, _⟩ := I.loc
  refine .cons (by rw [I.ok.kind]; decide) hf hn ?_ I.funs
  exact Heap.get?_none_of_le (Nat.le_trans I.ok.bsz I.ok.above)
theorem Inv.stkSub (I : Inv X pins σ H s) : ∀ b ∈ frs X.stack, b ∈ X.env.locals :: X.fs := fun b hb => by
 rcases I.ok.stk with e | ⟨e, hf⟩
 ·rw [e] at hb; exact List.mem_cons_of_mem _ hb
 ·rw [e] at hb
  unfold frs at hb
  rw [List.filterMap_cons, hf] at hb
  exact hb
theorem Inv.stkFree (I : Inv X pins σ H s) : ∀ b ∈ frs X.stack, H b = none := fun b hb => by
 rcases List.mem_cons.mp (I.stkSub b hb) with e | hb
 ·rw [e]; exact I.free
 ·obtain ⟨_, o, ho, _⟩ := I.ok.funs.mem hb
  exact I.base.free b o ho (I.ok.frf b hb) fun z => I.ok.exfs b z hb
theorem Inv.step {g' : Array GenState} {t' : Nat} {d' : Drawn} {ch : List Addr} (I : Inv X pins σ H s)
  (hch : ∀ b ∈ ch, (b ∈ X.ex ∨ X.s₀.heap.objs.size ≤ b) ∧ b ≠ X.env.locals ∧ (∀ x c, X.env.cells.lookup x = some c → c ≠ b) ∧ ∀ p ∈ X.pn ++ pins, p.1 ≠ b)
  (keep : ∀ b o, b ≠ X.env.locals → b ∉ X.fs → b ∉ ch → s.heap.get? b = some o → H b = none → h'.get? b = some o)
  (slot : ∀ b o, b ≠ X.env.locals → b ∈ X.fs → b ∉ ch → s.heap.get? b = some o → H b = none → ∃ sl, h'.get? b = some { o with slots := sl }) (free : ∀ b o, b ∉ ch → s.heap.get? b = some o → H b = none → H' b = none)
  (there : ∀ b o, b ∉ ch → s.heap.get? b = some o → ∃ o', h'.get? b = some o')
  (tups : ∀ b xs, H b = some (.tup xs) → H' b = some (.tup xs)) (frzs : ∀ b o u, H b = some (.frz o u) → H' b = some (.frz o u)) (tbls : ∀ b ps, H b = some (.tbl ps) → ∃ more, H' b = some (.tbl (ps ++ more)))
  (ns : ∀ m, s.heap.Ns X.env.locals m → h'.Ns X.env.locals m) (hok : HOk X.prog X.w H' h') (hg : AllBare g') :
  Inv X pins σ H' { s with heap := h', gens := g', drawn := d', toks := t' } := by
 have neL : ∀ b o, X.s₀.heap.get? b = some o → b ≠ X.env.locals := fun b o e => Nat.ne_of_lt (Nat.lt_of_lt_of_le (Heap.lt_size e) I.ok.above)
 have neC : ∀ b o, X.s₀.heap.get? b = some o → b ∉ X.ex → b ∉ ch := fun b o e hx hb => by
  rcases (hch b hb).1 with z | z
  ·exact hx z
  ·exact absurd (Nat.lt_of_lt_of_le (Heap.lt_size e) z) (Nat.lt_irrefl _)
 have cellK : ∀ x c, X.env.cells.lookup x = some c → ∀ v, s.heap.IsCell c v → h'.IsCell c v := fun x c e v ⟨o, ho, hd⟩ => by
  have nch : c ∉ ch := fun z => (hch c z).2.2.1 x c e rfl
  by_cases hc : c ∈ X.fs
  ·obtain ⟨sl, q⟩ := slot c o (I.cne x c e) hc nch ho (I.freeC x c e)
   exact ⟨_, q, hd⟩
  ·exact ⟨o, keep c o (I.cne x c e) hc nch ho (I.freeC x c e), hd⟩
 refine ⟨I.ok, I.os, hg, ⟨fun b o e n hb hx => ?_, fun b o e n hb hx => ?_, fun b o e n hx => ?_, fun b o e hx => ?_, fun b xs e => tups b xs (I.base.tups b xs e), fun b o xs e => frzs b o xs (I.base.frzs b o xs e), fun b ps e => ?_⟩, ?_, fun x c e => ?_, ?_, fun x c e => ?_, fun p hp => ?_, hok, I.len⟩
 ·exact keep b o (neL b o e) hb (neC b o e hx) (I.base.keep b o e n hb hx) (I.base.free b o e n hx)
 ·obtain ⟨sl, e1⟩ := I.base.slot b o e n hb hx
  obtain ⟨sl', e2⟩ := slot b _ (neL b o e) hb (neC b o e hx) e1 (I.base.free b o e n hx)
  exact ⟨sl', e2⟩
 ·obtain ⟨o', e1⟩ := I.base.there b o e hx
  exact free b o' (neC b o e hx) e1 (I.base.free b o e n hx)
 ·obtain ⟨o', e1⟩ := I.base.there b o e hx
  exact there b o' (neC b o e hx) e1
 ·obtain ⟨m1, e1⟩ := I.base.tbls b ps e
  obtain ⟨m2, e2⟩ := tbls b _ e1
  exact ⟨m1 ++ m2, by rw [e2, Array.append_assoc]⟩
 ·obtain ⟨m, hn, hl⟩ := I.loc
  refine ⟨m, ns m hn, fun i x v e1 e2 e3 => ?_⟩
  obtain ⟨u, r, l⟩ := hl i x v e1 e2 e3
  refine ⟨u, r, ?_⟩
  rcases l with l | ⟨k, c, e, z⟩
  ·exact .inl l
  ·exact .inr ⟨k, c, e, cellK x c e _ z⟩
 ·obtain ⟨v, z⟩ := I.cell x c e
  exact ⟨v, cellK x c e v z⟩
 ·obtain ⟨m, ⟨o, _, _, ho, _⟩, _⟩ := I.loc
  exact free _ o (fun z => (hch _ z).2.1 rfl) ho I.free
 ·obtain ⟨v, o, ho, hd⟩ := I.cell x c e
  exact free c o (fun z => (hch c z).2.2.1 x c e rfl) ho (I.freeC x c e)
 ·obtain ⟨e, n, ne, nf, d⟩ := I.pin p hp
  have nch : p.1 ∉ ch := fun z => (hch p.1 z).2.2.2 p hp rfl
  exact ⟨keep p.1 p.2 ne nf nch e n, free p.1 p.2 nch e n, ne, nf, d⟩
theorem Inv.un {t' : Nat} (I : Inv X pins σ H s) (u : Un X.fs [] H H' s.heap h') (hok : HOk X.prog X.w H' h') : Inv X pins σ H' { s with heap := h', toks := t' } := by
 obtain ⟨m, ⟨o, es, ep, ho, r⟩, _⟩ := id I.loc
 obtain ⟨sl, hL⟩ := u.any ho I.free (by simp)
 exact I.step (g' := s.gens) (d' := s.drawn) (ch := []) (fun _ z => nomatch z) (fun b o _ hb _ e n => u.keep b o e n hb (by simp)) (fun b o _ hb _ e n => u.slot b o e n hb (by simp)) (fun b o _ e n => u.free b o e n (by simp)) (fun b o _ e => u.there b o e (by simp)) u.tups u.frzs u.tbls (fun m' hm => by
  obtain ⟨o', es', ep', ho', r'⟩ := hm
  rw [ho] at ho'; cases ho'
  exact ⟨_, es', ep', hL, r'⟩) hok I.bare
theorem Inv.call {g' : Array GenState} {t' : Nat} {d' : Drawn} {ch : List Addr} (I : Inv X pins σ H s) (u : Un (frs X.stack) ch H H' s.heap h') (hok : HOk X.prog X.w H' h') (hg : AllBare g')
  (hch : ∀ b ∈ ch, (b ∈ X.ex ∨ X.s₀.heap.objs.size ≤ b) ∧ b ≠ X.env.locals ∧ (∀ x c, X.env.cells.lookup x = some c → c ≠ b) ∧ ∀ p ∈ X.pn ++ pins, p.1 ≠ b) :
  Inv X pins σ H' { s with heap := h', gens := g', drawn := d', toks := t' } := by
 obtain ⟨m, ⟨o, es, ep, ho, r⟩, _⟩ := id I.loc
 obtain ⟨sl, hL⟩ := u.any ho I.free fun z => (hch _ z).2.1 rfl
 exact I.step (ch := ch) hch (fun b o hL hb hc e n => u.keep b o e n (fun z => (List.mem_cons.mp (I.stkSub b z)).elim hL hb) hc) (fun b o _ _ hc e n => u.any e n hc) (fun b o hc e n => u.free b o e n hc) (fun b o hc e => u.there b o e hc) u.tups u.frzs u.tbls (fun m' hm => by
  obtain ⟨o', es', ep', ho', r'⟩ := hm
  rw [ho] at ho'; cases ho'
  exact ⟨_, es', ep', hL, r'⟩) hok hg
theorem Inv.turned {t' : Nat} {it : Addr} (I : Inv X pins σ H s) (k : ∀ b o, b ≠ it → s.heap.get? b = some o → h'.get? b = some o) (hn : H it = none) (hL : it ≠ X.env.locals)
  (h1 : it ∈ X.ex ∨ X.s₀.heap.objs.size ≤ it) (h2 : ∀ x c, X.env.cells.lookup x = some c → c ≠ it) (h3 : ∀ p ∈ X.pn ++ pins, p.1 ≠ it) : Inv X pins σ H { s with heap := h', toks := t' } := by
 have nit : ∀ b u, H b = some u → b ≠ it := fun b u e z => by rw [z, hn] at e; cases e
 refine I.step (g' := s.gens) (d' := s.drawn) (ch := [it]) (fun b hb => ?_) (fun b o _ _ hc e _ => k b o (fun z => hc (by simp [z])) e) (fun b o _ _ hc e _ => ⟨o.slots, k b o (fun z => hc (by simp [z])) e⟩) (fun _ _ _ _ n => n)
  (fun b o hc e => ⟨o, k b o (fun z => hc (by simp [z])) e⟩) (fun _ _ e => e) (fun _ _ _ e => e) (fun b ps e => ⟨#[], by rw [e]; simp⟩) (fun m hm => ?_) (fun b u e => ?_) I.bare
 ·have e : b = it := by simpa using hb
  subst e
  exact ⟨h1, hL, h2, h3⟩
 ·obtain ⟨o, es, ep, ho, r⟩ := hm
  exact ⟨o, es, ep, k _ o (Ne.symm hL) ho, r⟩
 ·refine (I.hok b u e).stay (fun c v hc q => k c v ?_ q) (fun _ q => q) fun _ _ q => q
  rcases hc with z | z
  ·rw [z]; exact nit b u e
  ·exact nit c _ z
theorem Inv.tok (I : Inv X pins σ H s) (t : Nat) : Inv X pins σ H { s with toks := t } := I.un (h' := s.heap) (t' := t) Un.refl I.hok
theorem Inv.kept {t' : Nat} (I : Inv X pins σ H s) (k : ∀ b u, s.heap.get? b = some u → h'.get? b = some u) : Inv X pins σ H { s with heap := h', toks := t' } := I.un (Un.kept k) (I.hok.kept k)
theorem Inv.laid {a : Addr} {o : HO} {t' : Nat} (I : Inv X pins σ H s) (k : ∀ b u, s.heap.get? b = some u → h'.get? b = some u) (hp : s.heap.objs.size ≤ a) (new : BU X.prog X.w (upd H a o) h' a o) :
  Inv X pins σ (upd H a o) { s with heap := h', toks := t' } := I.un (Un.laid k hp (I.hok.fresh hp)) (I.hok.laid k hp new)
theorem Inv.write {x e : Addr} {o : HO} {t' : Nat} (I : Inv X pins σ H s) (mu : Mut (H x)) (he : e = x ∨ H e = some (.own x)) (k : ∀ b u, b ≠ e → s.heap.get? b = some u → h'.get? b = some u) (heo : ∃ u, h'.get? e = some u)
  (new : BU X.prog X.w (upd H x o) h' x o) : Inv X pins σ (upd H x o) { s with heap := h', toks := t' } := I.un (Un.write mu he k heo) (I.hok.write mu he k heo new)
theorem Inv.pins_of {pins' : List (Addr × Obj)} (I : Inv X pins σ H s) (h : ∀ p ∈ pins', s.heap.get? p.1 = some p.2 ∧ H p.1 = none ∧ p.1 ≠ X.env.locals ∧ p.1 ∉ X.fs ∧ ∀ v, p.2.data ≠ .cell v) : Inv X pins' σ H s :=
 ⟨I.ok, I.os, I.bare, I.base, I.loc, I.cell, I.free, I.freeC, fun p hp => (List.mem_append.mp hp).elim (fun z => I.pin p (List.mem_append_left _ z)) (h p), I.hok, I.len⟩
theorem Rp {N : List Str} (hN : N.Nodup) {i j : Nat} {x : Str} (a : N[i]? = some x) (b : N[j]? = some x) : i = j := by
 obtain ⟨h1, e1⟩ := List.getElem?_eq_some_iff.mp a
 obtain ⟨h2, e2⟩ := List.getElem?_eq_some_iff.mp b
 exact (List.getElem_inj hN).mp (e1.trans e2.symm)
theorem QU {M : Model} {A : Around} {E : Value → Shared → Prop} {i : Nat} {x : Str} {v : V} {u : Value} {Q : Unit → Shared → Prop} (I : Inv X pins σ H s) (hN : X.N.Nodup) (hi : X.N[i]? = some x) (hx : Loc X.env.scope x) (r : RelV v u)
  (h : ∀ s', Inv X pins (σ.set i (some v)) H s' → (∃ a, Heap.SameBut a s.heap s'.heap ∧ (a = X.env.locals ∨ X.env.cells.lookup x = some a)) → Q () s') (hf : X.fn x = true ∨ X.env.scope.names.lookup x = some .local := by first | exact .inl rfl | exact .inr rfl | assumption) : wpAny M A (storeName X.env x u) Q E s := by
 obtain ⟨m, hn, hl⟩ := id I.loc
 have hcls : (X.env.scope.kind == .class || (X.env.scope.kind == .module && X.env.locals != X.env.globals)) = false := by rw [I.ok.kind]; rfl
 have hiσ : i < σ.length := by rw [I.len]; exact (List.getElem?_eq_some_iff.mp hi).1
 have cne := I.cne
 have tracked : ∀ {a : Addr} {h' : Heap}, (∃ o, s.heap.get? a = some o ∧ H a = none) → Heap.SameBut a s.heap h' → HOk X.prog X.w H h' := fun {a h'} ha hs b ob e => by
  obtain ⟨_, _, hfree⟩ := ha
  refine (I.hok b ob e).stay (fun c w' hc q => (hs.2 c ?_).trans q) (fun _ q => q) fun _ _ q => q
  rintro rfl
  rcases hc with rfl | hc
  ·rw [hfree] at e; cases e
  ·rw [hfree] at hc; cases hc
 rcases hx with hk | hk
 ·refine wpAny_storeName_local hk hn (fun h' hn' hs => ?_) hcls
  obtain ⟨oL, _, _, hoL, _⟩ := id hn
  refine h _ ⟨I.ok, I.os, I.bare, ⟨fun b o e n hb hx => ?_, fun b o e n hb hx => ?_, I.base.free, fun b o e hx => ?_, I.base.tups, I.base.frzs, I.base.tbls⟩, ⟨_, hn', fun j y v' e1 e2 e3 => ?_⟩, fun y c e => ?_, I.free, I.freeC, fun p hp => ?_, tracked ⟨oL, hoL, I.free⟩ hs, by simpa using I.len⟩ ⟨_, hs, .inl rfl⟩
  ·exact (hs.2 b (Nat.ne_of_lt (Nat.lt_of_lt_of_le (Heap.lt_size e) I.ok.above))).trans (I.base.keep b o e n hb hx)
  ·obtain ⟨sl, e1⟩ := I.base.slot b o e n hb hx
   exact ⟨sl, (hs.2 b (Nat.ne_of_lt (Nat.lt_of_lt_of_le (Heap.lt_size e) I.ok.above))).trans e1⟩
  ·obtain ⟨o', e1⟩ := I.base.there b o e hx
   exact ⟨o', (hs.2 b (Nat.ne_of_lt (Nat.lt_of_lt_of_le (Heap.lt_size e) I.ok.above))).trans e1⟩
  ·by_cases hj : j = i
   ·subst hj
    rw [hi] at e1; cases e1
    rw [List.getElem?_set_self hiσ] at e2
    cases e2
    exact ⟨u, r, .inl ⟨hk, by simp⟩⟩
   ·rw [List.getElem?_set_ne (Ne.symm hj)] at e2
    obtain ⟨u', r', q⟩ := hl j y v' e1 e2 e3
    refine ⟨u', r', ?_⟩
    rcases q with ⟨k, e⟩ | ⟨k, c, e, z⟩
    ·refine .inl ⟨k, ?_⟩
     have : y ≠ x := fun e => hj (Rp hN e1 (e ▸ hi))
     simp [this, e]
    ·exact .inr ⟨k, c, e, z.sameBut hs (cne y c e)⟩
  ·obtain ⟨w', z⟩ := I.cell y c e
   exact ⟨w', z.sameBut hs (cne y c e)⟩
  ·obtain ⟨e, n, ne, nf, d⟩ := I.pin p hp
   exact ⟨(hs.2 p.1 ne).trans e, n, ne, nf, d⟩
 ·have hfn : X.fn x = true := by
   rcases hf with z | z
   ·exact z
   ·rw [z] at hk; cases hk
  obtain ⟨c, hc⟩ := I.ok.has x (.inl hk)
  obtain ⟨w', z⟩ := I.cell x c hc
  refine wpAny_storeName_cell I.ok.kind hk hc z (fun h' hc' hs => ?_)
  obtain ⟨oc, hoc, hocd⟩ := id z
  refine h { s with heap := h' } ⟨I.ok, I.os, I.bare, ⟨fun b o e n hb hx => ?_, fun b o e n hb hx => ?_, I.base.free, fun b o e hx => ?_, I.base.tups, I.base.frzs, I.base.tbls⟩, ⟨m, hn.sameBut hs (Ne.symm (cne x c hc)), fun j y v' e1 e2 e3 => ?_⟩, fun y c' e => ?_, I.free, I.freeC, fun p hp => ?_, tracked ⟨oc, hoc, I.freeC x c hc⟩ hs, by simpa using I.len⟩ ⟨c, hs, .inr hc⟩
  ·exact (hs.2 b (Nat.ne_of_lt (Nat.lt_of_lt_of_le (Heap.lt_size e) (I.ok.cab x c hfn hc)))).trans (I.base.keep b o e n hb hx)
  ·obtain ⟨sl, e1⟩ := I.base.slot b o e n hb hx
   exact ⟨sl, (hs.2 b (Nat.ne_of_lt (Nat.lt_of_lt_of_le (Heap.lt_size e) (I.ok.cab x c hfn hc)))).trans e1⟩
  ·obtain ⟨o', e1⟩ := I.base.there b o e hx
   exact ⟨o', (hs.2 b (Nat.ne_of_lt (Nat.lt_of_lt_of_le (Heap.lt_size e) (I.ok.cab x c hfn hc)))).trans e1⟩
  ·by_cases hj : j = i
   ·subst hj
    rw [hi] at e1; cases e1
    rw [List.getElem?_set_self hiσ] at e2
    cases e2
    exact ⟨u, r, .inr ⟨.inl hk, c, hc, hc'⟩⟩
   ·rw [List.getElem?_set_ne (Ne.symm hj)] at e2
    obtain ⟨u', r', q⟩ := hl j y v' e1 e2 e3
    refine ⟨u', r', ?_⟩
    rcases q with q | ⟨k, c', e, z'⟩
    ·exact .inl q
    ·refine .inr ⟨k, c', e, z'.sameBut hs ?_⟩
     rintro rfl
     exact hj (Rp hN e1 (I.ok.inj _ _ _ e hc ▸ hi))
  ·by_cases hcc : c' = c
   ·subst hcc; exact ⟨_, hc'⟩
   ·obtain ⟨w2, z2⟩ := I.cell y c' e
    exact ⟨w2, z2.sameBut hs hcc⟩
  ·obtain ⟨e, n, ne, nf, d⟩ := I.pin p hp
   refine ⟨(hs.2 p.1 ?_).trans e, n, ne, nf, d⟩
   intro q
   rw [q, hoc] at e
   have q' : oc = p.2 := Option.some.inj e
   exact d w' (by rw [← q']; exact hocd)
theorem LG {M : Model} {A : Around} {E : Value → Shared → Prop} {i : Nat} {x : Str} {v : V} {u : Value} {Q : Unit → Shared → Prop} (I : Inv X pins σ H s) (hN : X.N.Nodup) (hi : X.N[i]? = some x) (hx : Loc X.env.scope x) (r : RelV v u)
  (h : ∀ s', Inv X pins (σ.set i (some v)) H s' → Q () s') (hf : X.fn x = true ∨ X.env.scope.names.lookup x = some .local := by first | exact .inl rfl | exact .inr rfl | assumption) : wpAny M A (storeName X.env x u) Q E s :=
 QU I hN hi hx r (fun s' I' _ => h s' I') hf
theorem Inv.call' {s' : Shared} {ch : List Addr} (I : Inv X pins σ H s) (ho : s'.os = s.os) (u : Un (frs X.stack) ch H H' s.heap s'.heap) (hok : HOk X.prog X.w H' s'.heap) (hg : AllBare s'.gens)
  (hch : ∀ b ∈ ch, (b ∈ X.ex ∨ X.s₀.heap.objs.size ≤ b) ∧ b ≠ X.env.locals ∧ (∀ x c, X.env.cells.lookup x = some c → c ≠ b) ∧ ∀ p ∈ X.pn ++ pins, p.1 ≠ b) : Inv X pins σ H' s' := by
 obtain ⟨h', g', d', t', o'⟩ := s'
 have e : o' = s.os := ho
 subst e
 exact I.call (g' := g') (t' := t') (d' := d') u hok hg hch
end
noncomputable abbrev XK := Value → Option Addr → Hp → Prop
noncomputable abbrev St := List (Option V)
noncomputable abbrev VK := V → Hp → Prop
noncomputable abbrev TE := St → Hp → VK → Prop
noncomputable abbrev TT := St → Hp → (Bool → Hp → Prop) → Prop
noncomputable abbrev TA := St → Hp → (List V → Hp → Prop) → Prop
structure Ip where
 nx : St → Hp → Prop
 rt : VK
 bk : St → Hp → Prop := fun _ _ => False
 ct : St → Hp → Prop := fun _ _ => False
noncomputable abbrev TS := Ip → St → Hp → Prop
noncomputable def EP (X : Cx) (pins : List (Addr × Obj)) (σ : St) (Q : VK) (u : Value) (s' : Shared) : Prop := ∃ v H', Inv X pins σ H' s' ∧ RelV v u ∧ Q v H'
noncomputable def TP (X : Cx) (pins : List (Addr × Obj)) (σ : St) (Q : Bool → Hp → Prop) (b : Bool) (s' : Shared) : Prop := ∃ H', Inv X pins σ H' s' ∧ Q b H'
noncomputable def AP (X : Cx) (pins : List (Addr × Obj)) (σ : St) (Q : List V → Hp → Prop) (us : List Value) (s' : Shared) : Prop := ∃ vs H', Inv X pins σ H' s' ∧ As vs us ∧ Q vs H'
noncomputable def SP (X : Cx) (pins : List (Addr × Obj)) (D : Ip) (f : Flow) (s' : Shared) : Prop :=
 match f with
 | .next => ∃ σ' H', Inv X pins σ' H' s' ∧ D.nx σ' H'
 | .brk => ∃ σ' H', Inv X pins σ' H' s' ∧ D.bk σ' H'
 | .cont => ∃ σ' H', Inv X pins σ' H' s' ∧ D.ct σ' H'
 | .ret u => ∃ v σ' H', Inv X pins σ' H' s' ∧ RelV v u ∧ D.rt v H'
noncomputable def PE (X : Cx) (e : Expr) (t : TE) : Prop :=
 ∀ (pins : List (Addr × Obj)) (s : Shared) (σ : St) (H : Hp) (Q : VK), Inv X pins σ H s → t σ H Q → wpAny (model X.prog X.w) X.A (eval e X.env) (EP X pins σ Q) X.xe s
noncomputable def PT (X : Cx) (e : Expr) (t : TT) : Prop :=
 ∀ (pins : List (Addr × Obj)) (s : Shared) (σ : St) (H : Hp) (Q : Bool → Hp → Prop), Inv X pins σ H s → t σ H Q → wpAny (model X.prog X.w) X.A (isTrue e X.env (eval e X.env)) (TP X pins σ Q) X.xe s
noncomputable def PW (X : Cx) (e : Expr) (t : TT) : Prop :=
 ∀ (whole : Sem Value) (pins : List (Addr × Obj)) (s : Shared) (σ : St) (H : Hp) (Q : Bool → Hp → Prop), Inv X pins σ H s → t σ H Q → wpAny (model X.prog X.w) X.A (isTrue e X.env whole) (TP X pins σ Q) X.xe s
theorem PW.pt {X : Cx} {e : Expr} {t : TT} (h : PW X e t) : PT X e t := h _
noncomputable def PA (X : Cx) (es : List Expr) (t : TA) : Prop :=
 ∀ (pos : Pos) (pins : List (Addr × Obj)) (s : Shared) (σ : St) (H : Hp) (Q : List V → Hp → Prop), Inv X pins σ H s → t σ H Q → wpAny (model X.prog X.w) X.A (spliced (backTo pos (starEach es X.env))) (AP X pins σ Q) X.xe s
noncomputable def PS (X : Cx) (st : Stmt) (t : TS) : Prop :=
 ∀ (pins : List (Addr × Obj)) (s : Shared) (σ : St) (H : Hp) (D : Ip), Inv X pins σ H s → t D σ H → wpAny (model X.prog X.w) X.A (exec st X.env) (SP X pins D) X.xe s
noncomputable def PSs (X : Cx) (st : List Stmt) (t : TS) : Prop :=
 ∀ (pins : List (Addr × Obj)) (s : Shared) (σ : St) (H : Hp) (D : Ip), Inv X pins σ H s → t D σ H → wpAny (model X.prog X.w) X.A (execs st X.env) (SP X pins D) X.xe s
theorem thn {α : Type} {t : Sem α} {Q Q' : α → Shared → Prop} {M : Model} {A : Around} {E : Value → Shared → Prop} {s : Shared} (h : wpAny M A t Q E s) (hQ : ∀ a s, Q a s → Q' a s) : wpAny M A t Q' E s := wpAny_mono h hQ fun _ _ x => x
section
variable {X : Cx}
noncomputable def L0 (i : Nat) : TE := fun σ H Q => ∃ v, σ[i]? = some (some v) ∧ Q v H
noncomputable def tC (v : V) : TE := fun _ H Q => Q v H
theorem Zk {i : Nat} {x : Str} {pos : Pos} (hN : X.N[i]? = some x) (hv : Vis X.env.scope x) (hd : (x == ("__debug__" : Str)) = false := by decide) (hcd : (x == ("__classdict__" : Str)) = false := by decide) : PE X (.Name x pos) (L0 i) := by
 intro pins s σ H Q I h
 obtain ⟨v, e, h⟩ := h
 obtain ⟨m, hn, hl⟩ := I.loc
 obtain ⟨u, r, l⟩ := hl i x v hN e hv
 have fin : EP X pins σ Q u s := ⟨v, H, I, r, h⟩
 rcases l with ⟨hk, hm⟩ | ⟨hk, c, hc, hcell⟩
 ·exact wpAny_Name (wpAny_loadName_local I.ok.kind hk hn hm fin) hd
 ·rcases hk with hk | hk
  ·exact wpAny_Name (wpAny_loadName_cell I.ok.kind hk hc hcell fin) hd
  ·exact wpAny_Name (wpAny_loadName_free I.ok.kind hk hc hcell fin hcd) hd
theorem AB {i j pos} : PE X (.Constant (.int i) j pos) (tC (.int i)) := fun _ _ _ H _ I h => wpAny_Constant_int ⟨.int i, H, I.tok _, ⟨_, rfl⟩, h⟩
theorem BD {b j pos} : PE X (.Constant (.bool b) j pos) (tC (.bl b)) := fun _ _ _ H _ I h => Constant_bool ⟨.bl b, H, I, rfl, h⟩
theorem GD {j pos} : PE X (.Constant .none j pos) (tC .non) := fun _ _ _ H _ I h => Constant_none ⟨.non, H, I, rfl, h⟩
theorem AX {x j pos} : PE X (.Constant (.str x) j pos) (tC (.str x)) := fun _ _ _ H _ I h => Calls.Constant_str ⟨.str x, H, I.tok _, ⟨_, rfl⟩, h⟩
noncomputable def Gl (X : Cx) (x : Str) : Prop := X.env.kindOf x = some .globalImplicit
theorem K6 {E : Value → Shared → Prop} {pins : List (Addr × Obj)} {s : Shared} {σ : St} {H : Hp} {x : Str} {u : Value} {pos : Pos} {Q : Value → Shared → Prop} (I : Inv X pins σ H s) (hg : Gl X x) (hm : X.mg x = some u) (h : Q u s)
  (hd : (x == ("__debug__" : Str)) = false := by decide) : wpAny (model X.prog X.w) X.A (eval (.Name x pos) X.env) Q E s :=
 Calls.Name_function_global I.ok.kind hg (Calls.loadGlobal_global (by rw [I.ok.glob]; exact I.mod.glob.keeps I.bk) hm h) hd
theorem KB {E : Value → Shared → Prop} {pins : List (Addr × Obj)} {s : Shared} {σ : St} {H : Hp} {x : Str} {u : Value} {pos : Pos} {Q : Value → Shared → Prop} (I : Inv X pins σ H s) (hg : Gl X x) (hm : X.mg x = none) (hv : bootBuiltins x = some u) (h : Q u s)
  (hn : x ≠ "__name__" := by decide) (hd : (x == ("__debug__" : Str)) = false := by decide) : wpAny (model X.prog X.w) X.A (eval (.Name x pos) X.env) Q E s := by
 obtain ⟨mb, h1, h2⟩ := I.mod.blt
 exact Calls.Name_function_global I.ok.kind hg (Calls.loadGlobal_builtin (by rw [I.ok.glob]; exact I.mod.glob.keeps I.bk) hm (by rw [I.ok.blt]; exact h1.keeps I.bk) ((h2 x hn).trans hv) h) hd
theorem EX {x : Str} {v : V} {u : Value} {pos : Pos} (hg : Gl X x) (hm : X.mg x = some u) (r : RelV v u) (hd : (x == ("__debug__" : Str)) = false := by decide) : PE X (.Name x pos) (tC v) :=
 fun _ _ _ H _ I h => K6 I hg hm ⟨v, H, I, r, h⟩ hd
theorem Ia {x : Str} {v : V} {u : Value} {pos : Pos} (hg : Gl X x) (hm : X.mg x = none) (hv : bootBuiltins x = some u) (r : RelV v u) (hn : x ≠ "__name__" := by decide) (hd : (x == ("__debug__" : Str)) = false := by decide) : PE X (.Name x pos) (tC v) :=
 fun _ _ _ H _ I h => KB I hg hm hv ⟨v, H, I, r, h⟩ hn hd
variable {a b : Expr} {ta tb : TE} {pos : Pos}
noncomputable def PC (X : Cx) (op : CmpOp) (a b : Expr) (t : TE) : Prop :=
 ∀ (pins : List (Addr × Obj)) (s : Shared) (σ : St) (H : Hp) (Q : VK), Inv X pins σ H s → t σ H Q →
  wpAny (model X.prog X.w) X.A (eval a X.env) (fun v s₁ => wpAny (model X.prog X.w) X.A (eval b X.env) (fun u s₂ => wpAny (model X.prog X.w) X.A (compareOp op v u) (EP X pins σ Q) X.xe s₂) X.xe s₁) X.xe s
noncomputable def tB (t : TE) : TT := fun σ H Q => t σ H fun x H1 => ∃ c, x = .bl c ∧ Q c H1
theorem Su {op : CmpOp} {t : TE} (h : PC X op a b t) (h1 : behindInMarks op b = false := by first | exact nobehind _ (by decide) (by decide) | rfl) : PT X (.Compare a [op] [b] pos) (tB t) := by
 intro pins s σ H Q I hw
 refine wpAny_isTrue_Compare1 (thn (h pins s σ H _ I hw) fun v s1 h1 => thn h1 fun u s2 h2 => thn h2 fun c s3 ⟨x, H1, I1, r1, q1⟩ => ?_) h1
 obtain ⟨d, rfl, q⟩ := q1
 cases r1
 exact wpAny_truthy_bool ⟨H1, I1, q⟩
theorem Bd {e : Expr} {t : TE} (h : PE X e t) (he : ∀ whole, isTrue e X.env whole = (do let v ← whole; standAt e.pos; holding [v] (truthy v)) := by intro _; rfl) : PT X e (tB t) := by
 intro pins s σ H Q I hw
 refine isTrue_plain (thn (h pins s σ H _ I hw) fun v s1 ⟨x, H1, I1, r1, q1⟩ => ?_) (he _)
 obtain ⟨d, rfl, q⟩ := q1
 cases r1
 exact wpAny_truthy_bool ⟨H1, I1, q⟩
variable {tA tB' : TT} {rest : List Expr}
noncomputable def O0 (t u : TT) : TT := fun σ H Q => t σ H fun c H1 => if c = true then u σ H1 Q else Q false H1
noncomputable def tOr (t u : TT) : TT := fun σ H Q => t σ H fun c H1 => if c = true then Q true H1 else u σ H1 Q
noncomputable def PP (t : TT) : TT := fun σ H Q => t σ H fun c H1 => Q (!c) H1
theorem Ca (ha : PT X a tA) : PW X (.BoolOp .And [a] pos) tA := by
 intro wh pins s σ H Q I h
 refine isTrue_and (thn (ha pins s σ H Q I h) fun c s1 e => ?_)
 cases c with
 | true => exact isTrue_and_nil e
 | false => exact e
theorem C1 (ha : PT X a tA) : PW X (.BoolOp .Or [a] pos) tA := by
 intro wh pins s σ H Q I h
 refine isTrue_or (thn (ha pins s σ H Q I h) fun c s1 e => ?_)
 cases c with
 | false => exact isTrue_or_nil e
 | true => exact e
theorem Dm (ha : PT X a tA) (hb : PW X (.BoolOp .And (b :: rest) pos) tB') : PW X (.BoolOp .And (a :: b :: rest) pos) (O0 tA tB') := by
 intro wh pins s σ H Q I h
 refine isTrue_and (thn (ha pins s σ H _ I h) fun c s1 zq => ?_)
 obtain ⟨H1, I1, q1⟩ := zq
 cases c with
 | true => exact hb wh pins s1 σ H1 Q I1 q1
 | false => exact ⟨H1, I1, q1⟩
theorem EW (ha : PT X a tA) (hb : PW X (.BoolOp .Or (b :: rest) pos) tB') : PW X (.BoolOp .Or (a :: b :: rest) pos) (tOr tA tB') := by
 intro wh pins s σ H Q I h
 refine isTrue_or (thn (ha pins s σ H _ I h) fun c s1 zq => ?_)
 obtain ⟨H1, I1, q1⟩ := zq
 cases c with
 | true => exact ⟨H1, I1, q1⟩
 | false => exact hb wh pins s1 σ H1 Q I1 q1
theorem B0 (ha : PT X a tA) : PT X (.UnaryOp .Not a pos) (PP tA) := by
 intro pins s σ H Q I h
 exact isTrue_not (ha pins s σ H (fun c H1 => Q (!c) H1) I h)
noncomputable def Jh (ta tb : TE) : TE := fun σ H Q => ta σ H fun x H1 => ∃ c, x = .bl c ∧ if c = true then tb σ H1 Q else Q (.bl false) H1
noncomputable def Qm (ta tb : TE) : TE := fun σ H Q => ta σ H fun x H1 => ∃ c, x = .bl c ∧ if c = true then Q (.bl true) H1 else tb σ H1 Q
noncomputable def Jn (ta : TE) : TE := fun σ H Q => ta σ H fun x H1 => ∃ c, x = .bl c ∧ Q (.bl (!c)) H1
theorem RD {op} {t : TE} (h : PE X a t) : PE X (.BoolOp op [a] pos) t := fun pins s σ H Q I hw => BoolOp_one (h pins s σ H Q I hw)
theorem RM (ha : PE X a ta) (hb : PE X (.BoolOp .And (b :: rest) pos) tb) : PE X (.BoolOp .And (a :: b :: rest) pos) (Jh ta tb) := by
 intro pins s σ H Q I h
 refine BoolOp_and (thn (ha pins s σ H _ I h) fun v s1 zq => ?_)
 obtain ⟨x, H1, I1, r1, q1⟩ := zq
 obtain ⟨c, rfl, q1⟩ := q1
 cases r1
 refine wpAny_truthy_bool ?_
 cases c with
 | true => exact hb pins s1 σ H1 Q I1 q1
 | false => exact ⟨.bl false, H1, I1, rfl, q1⟩
theorem YT (ha : PE X a ta) : PE X (.UnaryOp .Not a pos) (Jn ta) := by
 intro pins s σ H Q I h
 refine UnaryOp_ (thn (ha pins s σ H _ I h) fun v s1 zq => ?_)
 obtain ⟨x, H1, I1, r1, q1⟩ := zq
 obtain ⟨c, rfl, q1⟩ := q1
 cases r1
 exact not_of (wpAny_truthy_bool ⟨.bl (!c), H1, I1, rfl, q1⟩)
noncomputable def tIf (t : TT) (ta tb : TE) : TE := fun σ H Q => t σ H fun c H1 => if c = true then ta σ H1 Q else tb σ H1 Q
end
noncomputable def SqL (K : PySem.W.Frag) (H : Hp) (a : Addr) (xs : List V) : Prop :=
 Rd H a (.lst xs) ∨
  ∃ (o : Obj) (its : Array Value) (n : Nat), K.lookup a = some o ∧ o.cls = .type "list" ∧ o.dict = none ∧ o.data = .seq its n ∧ its.size ≤ sizeLine ∧ As xs its.toList
noncomputable def SqT (K : PySem.W.Frag) (H : Hp) (a : Addr) (xs : List V) : Prop :=
 Rd H a (.tup xs) ∨
  ∃ (o : Obj) (its : Array Value) (n : Nat), K.lookup a = some o ∧ o.cls = .type "tuple" ∧ o.data = .seq its n ∧ its.size ≤ sizeLine ∧ As xs its.toList
noncomputable def absV : Value → Option V
 | .none => some .non
 | .bool b => some (.bl b)
 | .int i _ => some (.int i)
 | .str x _ => some (.str x)
 | .bytes b _ => some (.byt b)
 | .float b _ => some (.flt b)
 | .ref a => some (.ref a)
 | .type n => some (.ty n)
 | _ => none
theorem RelV.abs {x : V} {u : Value} (r : RelV x u) : absV u = some x := by
 cases x with
 | non => cases r; rfl
 | bl _ => cases r; rfl
 | int _ => obtain ⟨t, rfl⟩ := r; rfl
 | str _ => obtain ⟨t, rfl⟩ := r; rfl
 | byt _ => obtain ⟨t, rfl⟩ := r; rfl
 | flt _ => obtain ⟨t, rfl⟩ := r; rfl
 | ref _ => cases r; rfl
 | ty _ => cases r; rfl
theorem RelV.inj {x y : V} {u : Value} (r : RelV x u) (q : RelV y u) : x = y := Option.some.inj (r.abs.symm.trans q.abs)
theorem As.inj : ∀ {xs ys : List V} {us : List Value}, As xs us → As ys us → xs = ys
 | _, _, _, .nil, .nil => rfl
 | _, _, _, .cons r t, .cons r' t' => by rw [r.inj r', As.inj t t']
section
variable {X : Cx} {pins : List (Addr × Obj)} {σ : St} {H : Hp} {s : Shared} {a : Addr} {xs ys : List V}
theorem SqL.of {K : PySem.W.Frag} (h : H a = some (.lst xs)) : SqL K H a xs := .inl (.inl h)
theorem SqT.of {K : PySem.W.Frag} (h : H a = some (.tup xs)) : SqT K H a xs := .inl (.inl h)
theorem Inv.list (I : Inv X pins σ H s) (h : SqL X.K H a xs) : ∃ its : List Value, As xs its ∧ PlainL s.heap a its.toArray ∧ xs.length ≤ sizeLine := by
 rcases h with h | ⟨o, its, n, hk, hc, hd, hs, hz, r⟩
 ·obtain ⟨z, its, n, r, e⟩ := h.ok I.hok
  exact ⟨its, r, ⟨_, n, e, rfl, rfl, rfl⟩, z⟩
 ·refine ⟨its.toList, r, ⟨o, n, I.kIn a o hk, hc, hd, by simpa using hs⟩, ?_⟩
  have e := r.length
  simp only [Array.length_toList] at e
  lia
theorem Inv.tuple (I : Inv X pins σ H s) (h : SqT X.K H a xs) : ∃ its : List Value, As xs its ∧ IsTup s.heap a its.toArray ∧ xs.length ≤ sizeLine := by
 rcases h with h | ⟨o, its, n, hk, hc, hs, hz, r⟩
 ·obtain ⟨z, its, r, p⟩ := h.ok I.hok
  exact ⟨its, r, p, z⟩
 ·refine ⟨its.toList, r, ⟨o, I.kIn a o hk, hc, n, by simpa using hs⟩, ?_⟩
  have e := r.length
  simp only [Array.length_toList] at e
  lia
theorem Inv.list_inj (I : Inv X pins σ H s) (h : SqL X.K H a xs) (h' : SqL X.K H a ys) : xs = ys := by
 obtain ⟨its, r, ⟨o, n, e, _, _, d⟩, _⟩ := I.list h
 obtain ⟨its', r', ⟨o', n', e', _, _, d'⟩, _⟩ := I.list h'
 rw [e] at e'; cases e'
 rw [d] at d'
 injection d' with d1 _
 have : its = its' := by simpa using congrArg Array.toList d1
 subst this
 exact r.inj r'
theorem Inv.tuple_inj (I : Inv X pins σ H s) (h : SqT X.K H a xs) (h' : SqT X.K H a ys) : xs = ys := by
 obtain ⟨its, r, ⟨o, e, _, n, d⟩, _⟩ := I.tuple h
 obtain ⟨its', r', ⟨o', e', _, n', d'⟩, _⟩ := I.tuple h'
 rw [e] at e'; cases e'
 rw [d] at d'
 injection d' with d1 _
 have : its = its' := by simpa using congrArg Array.toList d1
 subst this
 exact r.inj r'
end
noncomputable abbrev Cx.wish (X : Cx) (E : Value → Shared → Prop) : Cx := { X with xe := E }
noncomputable abbrev Cx.nox (X : Cx) : Cx := X.wish fun _ _ => False
theorem Cx.Ok.wish {X : Cx} (ok : X.Ok) (E : Value → Shared → Prop) : (X.wish E).Ok :=
 ⟨ok.mod, ok.kind, ok.glob, ok.blt, ok.above, ok.inj, ok.has, ok.cab, ok.hd, ok.frames, ok.stk, ok.exf, ok.bs, ok.bsz, ok.noex, ok.exfs, ok.funs, ok.frf⟩
theorem Cx.Ok.unwish {X : Cx} {E : Value → Shared → Prop} (ok : (X.wish E).Ok) : X.Ok :=
 ⟨ok.mod, ok.kind, ok.glob, ok.blt, ok.above, ok.inj, ok.has, ok.cab, ok.hd, ok.frames, ok.stk, ok.exf, ok.bs, ok.bsz, ok.noex, ok.exfs, ok.funs, ok.frf⟩
section
variable {X : Cx} {pins : List (Addr × Obj)} {σ : St} {H : Hp} {s : Shared} {E : Value → Shared → Prop}
theorem Inv.wish (I : Inv X pins σ H s) (E : Value → Shared → Prop) : Inv (X.wish E) pins σ H s := ⟨I.ok.wish E, I.os, I.bare, I.base, I.loc, I.cell, I.free, I.freeC, I.pin, I.hok, I.len⟩
theorem Inv.unwish (I : Inv (X.wish E) pins σ H s) : Inv X pins σ H s := ⟨I.ok.unwish, I.os, I.bare, I.base, I.loc, I.cell, I.free, I.freeC, I.pin, I.hok, I.len⟩
theorem SP.unwish {D : Ip} {f : Flow} {s' : Shared} (h : SP (X.wish E) pins D f s') : SP X pins D f s' := by
 cases f with
 | next => obtain ⟨σ', H', I, q⟩ := h; exact ⟨σ', H', I.unwish, q⟩
 | brk => obtain ⟨σ', H', I, q⟩ := h; exact ⟨σ', H', I.unwish, q⟩
 | cont => obtain ⟨σ', H', I, q⟩ := h; exact ⟨σ', H', I.unwish, q⟩
 | ret u => obtain ⟨v, σ', H', I, r, q⟩ := h; exact ⟨v, σ', H', I.unwish, r, q⟩
theorem PSs.nox {st : List Stmt} {t : TS} (h : PSs X.nox st t) : PSs X st t := fun pins s σ H D I hw =>
 wpAny_mono (h pins s σ H D (I.wish _) hw) (fun _ _ q => q.unwish) fun _ _ z => False.elim z
end
section
variable {X : Cx} {st : Stmt} {rest : List Stmt} {t u : TS} {e : Expr} {te : TE} {pos : Pos}
noncomputable def Nm : TS := fun D σ H => D.nx σ H
noncomputable def SG (t u : TS) : TS := fun D σ H => t { D with nx := u D } σ H
theorem AL : PSs X [] Nm := fun _ _ σ H _ I h => wpAny_execs_nil ⟨σ, H, I, h⟩
theorem AD (h1 : PS X st t) (h2 : PSs X rest u) : PSs X (st :: rest) (SG t u) := by
 intro pins s σ H D I h
 refine wpAny_execs_cons (thn (h1 pins s σ H { D with nx := u D } I h) fun f s1 q => ?_)
 cases f with
 | next =>
  obtain ⟨σ', H', I', q⟩ := q
  exact h2 pins s1 σ' H' D I' q
 | ret v => exact q
 | brk => exact q
 | cont => exact q
theorem AE (h1 : PS X st t) : PSs X [st] t := by
 intro pins s σ H D I h
 refine wpAny_execs_cons (thn (h1 pins s σ H D I h) fun f s1 q => ?_)
 cases f with
 | next => exact wpAny_execs_nil q
 | ret v => exact q
 | brk => exact q
 | cont => exact q
noncomputable def Mc : TS := fun D σ H => D.bk σ H
noncomputable def QB : TS := fun D σ H => D.ct σ H
theorem Inv.quiet {pins : List (Addr × Obj)} {σ : St} {H : Hp} {s : Shared} (I : Inv X pins σ H s) : interactive X.env = false := by simp [interactive, I.ok.kind]
noncomputable def N5 (te : TE) : TS := fun D σ H => te σ H fun _ H1 => D.nx σ H1
theorem BC (he : PE X e te) (hs : swapsWith e none pos.line X.env = pure false := by rfl) : PS X (.Expr e pos) (N5 te) := by
 intro pins s σ H D I h
 exact wpAny_Expr_any (thn (he pins s σ H _ I h) fun v s1 ⟨x, H1, I1, r1, q1⟩ => ⟨σ, H1, I1, q1⟩) I.quiet hs
noncomputable def Sv (te : TE) : TS := fun D σ H => te σ H D.rt
theorem AH (he : PE X e te) : PS X (.Return (some e) pos) (Sv te) := by
 intro pins s σ H D I h
 exact wpAny_Return_some (thn (he pins s σ H _ I h) fun v s1 ⟨x, H1, I1, r1, q1⟩ => ⟨x, σ, H1, I1, r1, q1⟩)
noncomputable def Nb : TS := fun D _ H => D.rt .non H
theorem XZ : PS X (.Return none pos) Nb := fun _ _ σ H _ I h => wpAny_Return_none ⟨.non, σ, H, I, rfl, h⟩
noncomputable def Tg (c : TT) (t u : TS) : TS := fun D σ H => c σ H fun b H1 => if b = true then t D σ H1 else u D σ H1
theorem AY {c : Expr} {a b : List Stmt} {tc : TT} (hc : PT X c tc) (ha : PSs X a t) (hb : PSs X b u) : PS X (.If c a b pos) (Tg tc t u) := by
 intro pins s σ H D I h
 refine wpAny_If (thn (hc pins s σ H _ I h) fun d s1 zq => ?_)
 obtain ⟨H1, I1, q1⟩ := zq
 cases d with
 | true => exact ha pins s1 σ H1 D I1 q1
 | false => exact hb pins s1 σ H1 D I1 q1
end
noncomputable abbrev TG := V → St → Hp → (St → Hp → Prop) → Prop
noncomputable abbrev TGs := List V → St → Hp → (St → Hp → Prop) → Prop
noncomputable def PG (X : Cx) (target : Expr) (t : TG) : Prop :=
 ∀ (pins : List (Addr × Obj)) (s : Shared) (σ : St) (H : Hp) (v : V) (u : Value) (Q : St → Hp → Prop), Inv X pins σ H s → RelV v u → t v σ H Q →
  wpAny (model X.prog X.w) X.A (assign target X.env u) (fun _ s' => ∃ σ' H', Inv X pins σ' H' s' ∧ Q σ' H') X.xe s
noncomputable def PGs (X : Cx) (ts : List Expr) (t : TGs) : Prop :=
 ∀ (pins : List (Addr × Obj)) (s : Shared) (σ : St) (H : Hp) (vs : List V) (us : List Value) (Q : St → Hp → Prop), Inv X pins σ H s → As vs us → t vs σ H Q →
  wpAny (model X.prog X.w) X.A (assignInOrder ((assignEach ts X.env).map (·.2)) us) (fun _ s' => ∃ σ' H', Inv X pins σ' H' s' ∧ Q σ' H') X.xe s
noncomputable abbrev ZI := V → V → V → Hp → (Hp → Prop) → Prop
noncomputable def PSet (X : Cx) (t : ZI) : Prop :=
 ∀ (pins : List (Addr × Obj)) (s : Shared) (σ : St) (H : Hp) (o i v : V) (ov iv u : Value) (Q : Hp → Prop), Inv X pins σ H s → RelV o ov → RelV i iv → RelV v u → t o i v H Q →
  wpAny (model X.prog X.w) X.A (setItem ov iv u) (fun _ s' => ∃ H', Inv X pins σ H' s' ∧ Q H') X.xe s
section
variable {X : Cx} {pos : Pos}
noncomputable def EM (i : Nat) : TG := fun v σ H Q => Q (σ.set i (some v)) H
theorem UH {i : Nat} {x : Str} (hN : X.N.Nodup) (hi : X.N[i]? = some x) (hx : Loc X.env.scope x) (hf : X.fn x = true ∨ X.env.scope.names.lookup x = some .local := by first | exact .inl rfl | exact .inr rfl | assumption) : PG X (.Name x pos) (EM i) := by
 intro pins s σ H v u Q I r h
 exact wpAny_assign_Name (LG I hN hi hx r (fun s' I' => ⟨_, H, I', h⟩) hf)
noncomputable def La : TGs := fun vs σ H Q => vs = [] ∧ Q σ H
noncomputable def EJ (t : TG) (u : TGs) : TGs := fun vs σ H Q => ∃ v r, vs = v :: r ∧ t v σ H fun σ' H' => u r σ' H' Q
theorem Ch : PGs X [] La := by
 intro pins s σ H vs us Q I r h
 obtain ⟨e, h⟩ := h
 subst e
 cases r
 exact assignInOrder_nil ⟨σ, H, I, h⟩
theorem Am {e : Expr} {es : List Expr} {t : TG} {u : TGs} (h1 : PG X e t) (h2 : PGs X es u)
  (hs : (assignEach (e :: es) X.env).map (·.2) = assign e X.env :: (assignEach es X.env).map (·.2) := by rfl) : PGs X (e :: es) (EJ t u) := by
 intro pins s σ H vs us Q I r h
 obtain ⟨v, vr, e1, h⟩ := h
 subst e1
 cases r with
 | cons r rr =>
  rw [hs]
  refine assignInOrder_cons (thn (h1 pins s σ H _ _ _ I r h) fun _ s1 zq => ?_)
  obtain ⟨σ1, H1, I1, q1⟩ := zq
  exact h2 pins s1 σ1 H1 _ _ Q I1 rr q1
noncomputable def Kx (K : PySem.W.Frag) (n : Nat) (t : TGs) : TG := fun v σ H Q => ∃ a xs, v = .ref a ∧ SqT K H a xs ∧ xs.length = n ∧ t xs σ H Q
theorem Et {es : List Expr} {k : Nat} {t : TGs} {n : Nat} (hc : X.calm = true) (h : PGs X es t)
  (hn : (assignEach es X.env).length = n := by rfl) (hst : (assignEach es X.env).findIdx? (·.1) = none := by rfl) : PG X (.Tuple es k pos) (Kx X.K n t) := by
 intro pins s σ H v u Q I r hw
 obtain ⟨a, xs, e1, hq, hl, hw⟩ := hw
 subst e1
 cases r
 obtain ⟨its, rv, ht, hz⟩ := I.tuple hq
 refine assign_Tuple_tuple (I.ok.hd hc) ht (by simp [hn, ← hl, rv.length]) hst fun h' hx => ?_
 have I1 : Inv X pins σ H { s with heap := h' } := I.kept (t' := s.toks) fun b o e => hx b o (Nat.ne_of_lt (Heap.lt_size e)) e
 exact h pins _ σ H xs _ Q I1 (by simpa using rv) hw
noncomputable def O2 (to ti : TE) (t : ZI) : TG := fun v σ H Q => to σ H fun o H1 => ti σ H1 fun i H2 => t o i v H2 fun H3 => Q σ H3
theorem Zn {o i : Expr} {to ti : TE} {t : ZI} (ho : PE X o to) (hi : PE X i ti) (hs : PSet X t)
  (ha : ∀ v, assign (.Subscript o i pos) X.env v = (do
   let ov ← holding [v] (eval o X.env)
   let iv ← holding [v, ov] (eval i X.env)
   standAt pos
   holding [v, ov, iv] (setItem ov iv v)
   release [v, ov, iv] []) := by intro _; rfl) : PG X (.Subscript o i pos) (O2 to ti t) := by
 intro pins s σ H v u Q I r h
 rw [ha]
 refine wpAny_bind (wpAny_holding (thn (ho pins s σ H _ I h) fun ov s1 zq => ?_))
 obtain ⟨x, H1, I1, r1, q1⟩ := zq
 refine wpAny_bind (wpAny_holding (thn (hi pins s1 σ H1 _ I1 q1) fun iv s2 zq => ?_))
 obtain ⟨y, H2, I2, r2, q2⟩ := zq
 refine wpAny_bind (wpAny_standAt (wpAny_bind (wpAny_holding (thn (hs pins s2 σ H2 x y v ov iv u _ I2 r1 r2 r q2) fun _ s3 zq => ?_))))
 obtain ⟨H3, I3, q3⟩ := zq
 exact wpAny_release ⟨σ, H3, I3, q3⟩
noncomputable def OQ (te : TE) (g : TG) : TS := fun D σ H => te σ H fun x H1 => g x σ H1 D.nx
theorem II {tg e : Expr} {te : TE} {g : TG} (he : PE X e te) (hg : PG X tg g) (hs : swapsWithSole [tg] e pos.line X.env = pure false := by rfl) (hw : swappedStores [tg] e X.env = pure none := by rfl)
  (h1 : (assignEach [tg] X.env).map (·.2) = [assign tg X.env] := by rfl) : PS X (.Assign [tg] e pos) (OQ te g) := by
 intro pins s σ H D I h
 refine wpAny_Assign_stores (thn (he pins s σ H _ I h) fun v s1 ⟨x, H1, I1, r1, q1⟩ => ?_) hs hw
 rw [h1]
 exact thn (hg pins s1 σ H1 x v _ I1 r1 q1) fun _ s2 q => q
theorem Zo {i : Nat} {x : Str} {e : Expr} {te : TE} {pos' : Pos} (hN : X.N.Nodup) (hi : X.N[i]? = some x) (hx : Loc X.env.scope x) (he : PE X e te) (hs : swapsWith e (some (.Name x pos')) pos.line X.env = pure false := by rfl) (hf : X.fn x = true ∨ X.env.scope.names.lookup x = some .local := by first | exact .inl rfl | exact .inr rfl | assumption) :
  PS X (.Assign [.Name x pos'] e pos) (OQ te (EM i)) := by
 intro pins s σ H D I h
 refine wpAny_Assign_Name (thn (he pins s σ H _ I h) fun v s1 ⟨y, H1, I1, r1, q1⟩ => ?_) hs
 exact LG I1 hN hi hx r1 (fun s2 I2 => ⟨_, H1, I2, q1⟩) hf
noncomputable def TQ (i j : Nat) (ta : TA) : TS := fun D σ H => ta σ H fun vs H1 => ∃ v w, vs = [v, w] ∧ D.nx ((σ.set i (some v)).set j (some w)) H1
theorem ah {i j : Nat} {x y : Str} {a b : Expr} {ta : TA} {px py pt : Pos} {kt k2 pt2} (hc : X.calm = true) (hN : X.N.Nodup) (hi : X.N[i]? = some x) (hj : X.N[j]? = some y) (hij : i ≠ j)
  (hx : X.env.scope.names.lookup x = some .local) (hy : X.env.scope.names.lookup y = some .local) (ha : PA X [a, b] ta)
  (hw : swappedStores [.Tuple [.Name x px, .Name y py] kt pt] (.Tuple [a, b] k2 pt2) X.env = pure (some [x, y]))
  (hs : swapsWithSole [.Tuple [.Name x px, .Name y py] kt pt] (.Tuple [a, b] k2 pt2) pos.line X.env = pure false := by rfl) :
  PS X (.Assign [.Tuple [.Name x px, .Name y py] kt pt] (.Tuple [a, b] k2 pt2) pos) (TQ i j ta) := by
 intro pins s σ H D I h
 rw [exec_Assign_arm]
 refine wpAny_bind (wpAny_standAt ?_)
 rw [hs]
 refine wpAny_bind (wpAny_pure ?_)
 rw [if_neg (by decide)]
 refine wpAny_bind (Tuple_ (thn (ha _ pins s σ H _ I h) fun us s1 zq => ?_))
 obtain ⟨vs, H1, I1, r1, q1⟩ := zq
 obtain ⟨v, w, e1, q1⟩ := q1
 subst e1
 obtain ⟨u1, u2, rfl, rv, rw'⟩ : ∃ u1 u2, us = [u1, u2] ∧ RelV v u1 ∧ RelV w u2 := by
  cases r1 with
  | cons p q =>
   cases q with
   | cons p' q' =>
    cases q'
    exact ⟨_, _, rfl, p, p'⟩
 refine wpAny_newObj_type ?_ (by show 2 ≤ sizeLine; decide)
 have I2 : Inv X pins σ H1 { s1 with heap := s1.heap.push { cls := .type "tuple", data := .seq [u1, u2].toArray } } := I1.kept (t' := s1.toks) fun b o e => Heap.get?_push_of_some _ e
 rw [hw]
 refine wpAny_bind (wpAny_pure ?_)
 show wpAny (model X.prog X.w) X.A (do rule "assign.swapped-stores"; let items ← unpackItems (.ref s1.heap.objs.size) 2 none; assignInOrder [fun v => bindName X.env y v, fun v => bindName X.env x v] items.reverse; pure Flow.next) _ _ _
 refine wpAny_bind (wpAny_rule (wpAny_bind (unpackItems_tuple (items := #[u1, u2]) (I.ok.hd hc) (IsTup.new s1.heap _) fun h' hx' => ?_)))
 have I3 := I2.kept (h' := h') (t' := s1.toks) fun b o e => hx' b o (Nat.ne_of_lt (Heap.lt_size e)) e
 show wpAny _ _ (assignInOrder [fun v => bindName X.env y v, fun v => bindName X.env x v] [u2, u1] >>= fun _ => pure Flow.next) _ _ _
 refine wpAny_bind (assignInOrder_cons (wpAny_bindName (LG I3 hN hj (.inl hy) rw' (fun s2 I4 => ?_) (.inr hy))))
 refine assignInOrder_cons (wpAny_bindName (LG I4 hN hi (.inl hx) rv (fun s3 I5 => assignInOrder_nil (wpAny_pure ?_)) (.inr hx)))
 rw [List.set_comm _ _ (Ne.symm hij)] at I5
 exact ⟨_, H1, I5, q1⟩
end
section
variable {X : Cx} {pos : Pos}
noncomputable def ZX (c : TT) (tb : TS) : TS := fun D σ H => ∃ W : Nat → St → Hp → Prop, (∃ m, W m σ H) ∧ ∀ m σ H, W m σ H →
 c σ H fun b H1 => if b = true then ∃ N : St → Hp → Prop, (∀ σ' H', N σ' H' → ∃ m', m' < m ∧ W m' σ' H') ∧ tb { D with nx := N, ct := N, bk := D.nx } σ H1 else D.nx σ H1
theorem SW {c : Expr} {body : List Stmt} {tc : TT} {tb : TS} (hp : PassesOwn (model X.prog X.w) X.A X.env X.xe) (hc : PT X c tc) (hb : PSs X body tb) : PS X (.While c body [] pos) (ZX tc tb) := by
 intro pins s σ H D I h
 obtain ⟨W, ⟨m0, w0⟩, turn⟩ := h
 refine wpAny_While (codeAny_whileLoop (fun n s' => ∃ σ' H', Inv X pins σ' H' s' ∧ W n σ' H') ?_ m0 ⟨σ, H, I, w0⟩)
 rintro n s1 ⟨σ1, H1, I1, w1⟩
 refine wpAny_passesOwn hp (thn (hc pins s1 σ1 H1 _ I1 (turn n σ1 H1 w1)) fun b s2 zq => ?_)
 obtain ⟨H2, I2, q2⟩ := zq
 cases b with
 | true =>
  obtain ⟨N, hN, q2⟩ := q2
  rw [if_pos rfl]
  refine wpAny_passesOwn hp (thn (hb pins s2 σ1 H2 _ I2 q2) fun f s3 q3 => ?_)
  cases f with
  | next =>
   obtain ⟨σ3, H3, I3, n3⟩ := q3
   obtain ⟨m', hm, w3⟩ := hN σ3 H3 n3
   exact ⟨m', hm, σ3, H3, I3, w3⟩
  | cont =>
   obtain ⟨σ3, H3, I3, n3⟩ := q3
   obtain ⟨m', hm, w3⟩ := hN σ3 H3 n3
   exact ⟨m', hm, σ3, H3, I3, w3⟩
  | brk => exact q3
  | ret v => exact q3
 | false =>
  rw [if_neg Bool.false_ne_true]
  exact wpAny_execs_nil ⟨σ1, H2, I2, q2⟩
end
structure It where
 go : Nat → Hp → Prop
 yld : Nat → Hp → V → Hp → Prop
 stop : Nat → Hp → Prop
noncomputable def NT (X : Cx) (pins : List (Addr × Obj)) (H : Hp) (b : Addr) : Prop :=
 H b = none ∧ b ≠ X.env.locals ∧ b ∉ X.fs ∧ (b ∈ X.ex ∨ X.s₀.heap.objs.size ≤ b) ∧ (∀ x c, X.env.cells.lookup x = some c → c ≠ b) ∧ ∀ p ∈ X.pn ++ pins, p.1 ≠ b
theorem Inv.fpOk {X : Cx} {pins : List (Addr × Obj)} {σ : St} {H H' : Hp} {s : Shared} {b : Addr} (I : Inv X pins σ H s) (hb : s.heap.objs.size ≤ b) (hn : H' b = none) : NT X pins H' b := by
 refine ⟨hn, Nat.ne_of_gt (Nat.lt_of_lt_of_le I.lt hb), I.nofs hb, .inr (Nat.le_trans I.sz hb), fun x c e z => ?_, fun p hp z => ?_⟩
 ·obtain ⟨v, q⟩ := I.cell x c e
  exact absurd (Nat.lt_of_lt_of_le q.lt (by rw [z]; exact hb)) (Nat.lt_irrefl _)
 ·exact absurd (Nat.lt_of_lt_of_le (Heap.lt_size (I.pin p hp).1) (by rw [z]; exact hb)) (Nat.lt_irrefl _)
structure Um (P : Program) (w : World) (K : PySem.W.Frag) (tg : Expr) (J : It) (fp : List Addr) (it : Addr) (tn : Nat → Heap → Prop) : Prop where
 mem : it ∈ fp
 obj : ∀ i h, tn i h → ∀ b ∈ fp, ∃ o, h.get? b = some o ∧ ∀ v, o.data ≠ .cell v
 keep : ∀ i h h', tn i h → (∀ b ∈ fp, ∀ o, h.get? b = some o → h'.get? b = some o) → tn i h'
 item : ∀ (X : Cx), X.prog = P → X.w = w → X.K = K → X.calm = true → ∀ (i : Nat) (pins : List (Addr × Obj)) (s : Shared) (σ : St) (H : Hp) (E : Value → Shared → Prop), Inv X pins σ H s → (∀ b ∈ fp, NT X pins H b) → tn i s.heap → J.go i H →
  wpAny (model P w) X.A (pyNext (.ref it)) (fun r s1 => ∃ u, r = some u ∧
   wpAny (model P w) X.A (letOwnedTupleGo tg (.ref it) u) (fun _ s2 => ∃ x H', Inv X pins σ H' s2 ∧ RelV x u ∧ J.yld i H x H' ∧ tn (i + 1) s2.heap ∧ ∀ b ∈ fp, H' b = none) E s1) E s
 done : ∀ (X : Cx), X.prog = P → X.w = w → X.K = K → X.calm = true → ∀ (i : Nat) (pins : List (Addr × Obj)) (s : Shared) (σ : St) (H : Hp) (E : Value → Shared → Prop), Inv X pins σ H s → (∀ b ∈ fp, NT X pins H b) → tn i s.heap → J.stop i H →
  wpAny (model P w) X.A (pyNext (.ref it)) (fun r s1 => r = none ∧ Inv X pins σ H s1) E s
 self : ∀ (A : Around) (i : Nat) (s : Shared) (Q : Value → Shared → Prop) (E : Value → Shared → Prop), tn i s.heap → Q (.ref it) s → wpAny (model P w) A (pyIter (.ref it)) Q E s
noncomputable abbrev TI := St → Hp → (It → Hp → Prop) → Prop
noncomputable def PIE (X : Cx) (pins : List (Addr × Obj)) (σ : St) (tg : Expr) (R : It → Hp → Prop) (itv : Value) (s2 : Shared) : Prop :=
 ∃ (it : Addr) (fp : List Addr) (tn : Nat → Heap → Prop) (J : It) (H' : Hp), itv = .ref it ∧ Inv X pins σ H' s2 ∧ Um X.prog X.w X.K tg J fp it tn ∧ tn 0 s2.heap ∧ (∀ b ∈ fp, NT X pins H' b) ∧ R J H'
noncomputable def PI (X : Cx) (tg iter : Expr) (wi : TI) : Prop :=
 ∀ (pins : List (Addr × Obj)) (s : Shared) (σ : St) (H : Hp) (R : It → Hp → Prop), Inv X pins σ H s → wi σ H R →
  wpAny (model X.prog X.w) X.A (eval iter X.env) (fun v s1 => wpAny (model X.prog X.w) X.A (pyIter v) (PIE X pins σ tg R) X.xe s1) X.xe s
theorem V1 {M : Model} {A : Around} {E : Value → Shared → Prop} {s : Shared} {tg : Expr} {it : Addr} {u : Value} {o : Obj} {n : String} {vs : Array Value} {Q : Unit → Shared → Prop} (ho : s.heap.get? it = some o) (hc : o.cls = .type n) (hd : o.data = .fields vs)
  (hn : ["enumerate", "zip", "dict_itemiterator", "dict_reverseitemiterator", "odict_iterator", "itertools.zip_longest", "itertools.pairwise"].contains n = false) (hQ : Q () s) : wpAny M A (letOwnedTupleGo tg (.ref it) u) Q E s := by
 unfold letOwnedTupleGo
 cases tg <;> first
  | exact wpAny_pure hQ
  | (cases u <;> first
    | exact wpAny_pure hQ
    | (refine wpAny_bind (wpAny_load ho ?_)
       rw [hc, hd]
       show wpAny M A (if (["enumerate", "zip", "dict_itemiterator", "dict_reverseitemiterator", "odict_iterator", "itertools.zip_longest", "itertools.pairwise"].contains n && vs[0]? == some (rawInt _)) = true then _ else _) Q E s
       rw [if_neg (by intro h; rw [hn, Bool.false_and] at h; cases h)]
       exact wpAny_pure hQ))
noncomputable def Itl (K : PySem.W.Frag) (a : Addr) : It :=
 ⟨fun i H => ∃ xs x, SqL K H a xs ∧ xs[i]? = some x, fun i H x H' => H' = H ∧ ∀ xs, SqL K H a xs → xs[i]? = some x, fun i H => ∃ xs, SqL K H a xs ∧ xs.length ≤ i⟩
noncomputable def Itt (K : PySem.W.Frag) (a : Addr) : It :=
 ⟨fun i H => ∃ xs x, SqT K H a xs ∧ xs[i]? = some x, fun i H x H' => H' = H ∧ ∀ xs, SqT K H a xs → xs[i]? = some x, fun i H => ∃ xs, SqT K H a xs ∧ xs.length ≤ i⟩
noncomputable def Itr (lo : Int) (n : Nat) : It := ⟨fun i _ => i < n, fun i H x H' => H' = H ∧ x = .int (lo + i), fun i _ => n ≤ i⟩
theorem Uf {P : Program} {w : World} {K : PySem.W.Frag} {tg : Expr} (a it : Addr) : Um P w K tg (Itl K a) [it] it (fun i h => h.IsListIter it a i) where
 mem := by simp
 obj := fun i h st b hb => by
  have e : b = it := by simpa using hb
  subst e
  obtain ⟨o, e, c, d⟩ := st
  exact ⟨o, e, fun v z => by rw [d] at z; cases z⟩
 keep := fun i h h' st k => st.at fun o e => k it (by simp) o e
 item := by
  intro X hP hw hK hc i pins s σ H E I hf st hg
  subst hP hw hK
  obtain ⟨xs, x, hq, hx⟩ := hg
  obtain ⟨its, rv, p, hz⟩ := I.list hq
  obtain ⟨u, hu, ru⟩ := rv.get hx
  obtain ⟨f0, f1, f2, f3, f4, f5⟩ := hf it (by simp)
  refine wpAny_pyNext_list_item st p.isList (x := u) (by simpa using hu) fun h' st' sb => ?_
  have I1 : Inv X pins σ H { s with heap := h' } := I.turned (t' := s.toks) (fun b o hb e => (sb.2 b hb).trans e) f0 f1 f3 f4 f5
  obtain ⟨o, e, c, d⟩ := id st'
  exact ⟨u, rfl, V1 (s := { s with heap := h' }) e c d (by decide) ⟨x, H, I1, ru, ⟨rfl, fun ys hy => by rw [I.list_inj hy hq]; exact hx⟩, st', fun b hb => (hf b hb).1⟩⟩
 done := by
  intro X hP hw hK hc i pins s σ H E I hf st hg
  subst hP hw hK
  obtain ⟨xs, hq, hx⟩ := hg
  obtain ⟨its, rv, p, hz⟩ := I.list hq
  obtain ⟨f0, f1, f2, f3, f4, f5⟩ := hf it (by simp)
  have hl := rv.length
  exact wpAny_pyNext_list_end (I.ok.hd hc) st p.isList (by simp; lia) fun h' eb => ⟨rfl, I.turned (t' := s.toks) (fun b o hb e => eb b o hb e) f0 f1 f3 f4 f5⟩
 self := fun _ _ _ _ _ st h => wpAny_pyIter_listiter st h
theorem TY {P : Program} {w : World} {K : PySem.W.Frag} {tg : Expr} (a it : Addr) : Um P w K tg (Itt K a) [it] it (fun i h => h.IsTupleIter it a i) where
 mem := by simp
 obj := fun i h st b hb => by
  have e : b = it := by simpa using hb
  subst e
  obtain ⟨o, e, c, d⟩ := st
  exact ⟨o, e, fun v z => by rw [d] at z; cases z⟩
 keep := fun i h h' st k => st.at fun o e => k it (by simp) o e
 item := by
  intro X hP hw hK hc i pins s σ H E I hf st hg
  subst hP hw hK
  obtain ⟨xs, x, hq, hx⟩ := hg
  obtain ⟨its, rv, p, hz⟩ := I.tuple hq
  obtain ⟨u, hu, ru⟩ := rv.get hx
  obtain ⟨f0, f1, f2, f3, f4, f5⟩ := hf it (by simp)
  refine wpAny_pyNext_tuple_item st (show s.heap.IsTuple a its.toArray from p) (x := u) (by simpa using hu) fun h' st' sb => ?_
  have I1 : Inv X pins σ H { s with heap := h' } := I.turned (t' := s.toks) (fun b o hb e => (sb.2 b hb).trans e) f0 f1 f3 f4 f5
  obtain ⟨o, e, c, d⟩ := id st'
  exact ⟨u, rfl, V1 (s := { s with heap := h' }) e c d (by decide) ⟨x, H, I1, ru, ⟨rfl, fun ys hy => by rw [I.tuple_inj hy hq]; exact hx⟩, st', fun b hb => (hf b hb).1⟩⟩
 done := by
  intro X hP hw hK hc i pins s σ H E I hf st hg
  subst hP hw hK
  obtain ⟨xs, hq, hx⟩ := hg
  obtain ⟨its, rv, p, hz⟩ := I.tuple hq
  obtain ⟨f0, f1, f2, f3, f4, f5⟩ := hf it (by simp)
  have hl := rv.length
  exact wpAny_pyNext_tuple_end (I.ok.hd hc) st (show s.heap.IsTuple a its.toArray from p) (by simp; lia) fun h' eb => ⟨rfl, I.turned (t' := s.toks) (fun b o hb e => eb b o hb e) f0 f1 f3 f4 f5⟩
 self := fun _ _ _ _ _ st h => wpAny_pyIter_tupleiter st h
theorem TB {P : Program} {w : World} {K : PySem.W.Frag} {tg : Expr} (it : Addr) (lo : Int) (n : Nat) : Um P w K tg (Itr lo n) [it] it (fun i h => IsRangeIter h it (lo + (i : Nat) * 1) ((n : Int) - (i : Nat)) 1) where
 mem := by simp
 obj := fun i h st b hb => by
  have e : b = it := by simpa using hb
  subst e
  exact ⟨_, st, fun v z => by
   have z' : Data.fields _ = Data.cell v := z
   cases z'⟩
 keep := fun i h h' st k => k it (by simp) _ st
 item := by
  intro X hP hw hK hc i pins s σ H E I hf st hg
  subst hP hw hK
  obtain ⟨f0, f1, f2, f3, f4, f5⟩ := hf it (by simp)
  have W := Walks.range (prog := X.prog) (w := X.w) (I.ok.hd hc) it lo 1 n
  refine W.item i s _ _ hg st fun v h' tk hv st' kk => ?_
  obtain ⟨t, rfl⟩ := hv
  have I1 : Inv X pins σ H { s with heap := h', toks := tk } := I.turned (fun b o hb e => kk b o (by simpa using hb) e) f0 f1 f3 f4 f5
  refine ⟨_, rfl, V1 (s := { s with heap := h', toks := tk }) (n := "range_iterator") st' rfl rfl (by decide) ⟨.int (lo + i), H, I1, ⟨t, ?_⟩, ⟨rfl, rfl⟩, st', fun b hb => (hf b hb).1⟩⟩
  rw [Int.mul_one]
 done := by
  intro X hP hw hK hc i pins s σ H E I hf st hg
  subst hP hw hK
  obtain ⟨f0, f1, f2, f3, f4, f5⟩ := hf it (by simp)
  exact wpAny_pyNext_range_end (I.ok.hd hc) st (by have : n ≤ i := hg; lia) fun h' eb => ⟨rfl, I.turned (t' := s.toks) (fun b o hb e => eb b o hb e) f0 f1 f3 f4 f5⟩
 self := fun _ _ _ _ _ st h => wpAny_pyIter_rangeiter st h
section
variable {X : Cx} {tg : Expr}
noncomputable def Ec (K : PySem.W.Frag) (tl : TE) : TI := fun σ H R => tl σ H fun x H1 => ∃ a, x = .ref a ∧ (∃ xs, SqL K H1 a xs) ∧ R (Itl K a) H1
noncomputable def iTup (K : PySem.W.Frag) (tl : TE) : TI := fun σ H R => tl σ H fun x H1 => ∃ a, x = .ref a ∧ (∃ xs, SqT K H1 a xs) ∧ R (Itt K a) H1
theorem BL {l : Expr} {tl : TE} (hl : PE X l tl) : PI X tg l (Ec X.K tl) := by
 intro pins s σ H R I h
 refine thn (hl pins s σ H _ I h) fun v s1 zq => ?_
 obtain ⟨x, H1, I1, r1, q1⟩ := zq
 obtain ⟨a, e, ⟨xs, hq⟩, q⟩ := q1
 subst e
 cases r1
 obtain ⟨its, rv, p, hz⟩ := I1.list hq
 refine wpAny_pyIter_list p.isList ?_
 refine ⟨s1.heap.objs.size, [s1.heap.objs.size], _, _, H1, rfl, I1.kept (t' := s1.toks) fun b o e => Heap.get?_push_of_some _ e, Uf a _, ⟨_, Heap.get?_push_size _ rfl, rfl, rfl⟩, fun b hb => ?_, q⟩
 have e : b = s1.heap.objs.size := by simpa using hb
 subst e
 exact I1.fpOk (Nat.le_refl _) (I1.hok.fresh (Nat.le_refl _))
theorem Vz {l : Expr} {tl : TE} (hl : PE X l tl) : PI X tg l (iTup X.K tl) := by
 intro pins s σ H R I h
 refine thn (hl pins s σ H _ I h) fun v s1 zq => ?_
 obtain ⟨x, H1, I1, r1, q1⟩ := zq
 obtain ⟨a, e, ⟨xs, hq⟩, q⟩ := q1
 subst e
 cases r1
 obtain ⟨its, rv, p, hz⟩ := I1.tuple hq
 refine wpAny_pyIter_tuple (show s1.heap.IsTuple a its.toArray from p) ?_
 refine ⟨s1.heap.objs.size, [s1.heap.objs.size], _, _, H1, rfl, I1.kept (t' := s1.toks) fun b o e => Heap.get?_push_of_some _ e, TY a _, ⟨_, Heap.get?_push_size _ rfl, rfl, rfl⟩, fun b hb => ?_, q⟩
 have e : b = s1.heap.objs.size := by simpa using hb
 subst e
 exact I1.fpOk (Nat.le_refl _) (I1.hok.fresh (Nat.le_refl _))
theorem Rr {pins : List (Addr × Obj)} {σ : St} {H : Hp} {s : Shared} {R : It → Hp → Prop} {E : Value → Shared → Prop} {lo hi : Int} {t u v : Tok} {tk : Nat} (I : Inv X pins σ H s) (h1 : -(2 ^ 62) ≤ lo) (h2 : lo < 2 ^ 62) (h3 : -(2 ^ 62) ≤ hi) (h4 : hi < 2 ^ 62)
  (q : R (Itr lo (hi - lo).toNat) H) : wpAny (model X.prog X.w) X.A (pyIter (.ref s.heap.objs.size)) (PIE X pins σ tg R) E { s with heap := s.heap.push { cls := .type "range", data := .fields #[.int lo t, .int hi u, .int 1 v] }, toks := tk } := by
 refine wpAny_pyIter_range (IsRange.new ..) (small_one h1 h2 h3 h4) ?_
 have I1 : Inv X pins σ H { s with heap := s.heap.push { cls := .type "range", data := .fields #[.int lo t, .int hi u, .int 1 v] }, toks := tk } := I.kept fun b o e => Heap.get?_push_of_some _ e
 refine ⟨(s.heap.push { cls := .type "range", data := .fields #[.int lo t, .int hi u, .int 1 v] }).objs.size, [(s.heap.push { cls := .type "range", data := .fields #[.int lo t, .int hi u, .int 1 v] }).objs.size], _, _, H, rfl,
  I1.kept (t' := tk) fun b o e => Heap.get?_push_of_some _ e, TB _ lo (hi - lo).toNat, ?_, fun b hb => ?_, q⟩
 ·have e1 : lo + ((0 : Nat) : Int) * 1 = lo := by simp
  have e2 : (((hi - lo).toNat : Nat) : Int) - ((0 : Nat) : Int) = Builtin.Range.rangeSize lo hi 1 := by rw [rangeSize_one]; split <;> lia
  show IsRangeIter _ _ (lo + ((0 : Nat) : Int) * 1) ((((hi - lo).toNat : Nat) : Int) - ((0 : Nat) : Int)) 1
  rw [e1, e2]
  exact Heap.get?_push_size _ rfl
 ·have e : b = (s.heap.push { cls := .type "range", data := .fields #[.int lo t, .int hi u, .int 1 v] }).objs.size := by simpa using hb
  subst e
  exact I1.fpOk (Nat.le_refl _) (I1.hok.fresh (Nat.le_refl _))
noncomputable def Jo (ta : TA) : TI := fun σ H R => ta σ H fun vs H1 => ∃ j : Int, vs = [.int j] ∧ -(2 ^ 62) ≤ j ∧ j < 2 ^ 62 ∧ R (Itr 0 j.toNat) H1
noncomputable def Jc (ta : TA) : TI := fun σ H R => ta σ H fun vs H1 => ∃ i j : Int, vs = [.int i, .int j] ∧ (-(2 ^ 62) ≤ i ∧ i < 2 ^ 62 ∧ -(2 ^ 62) ≤ j ∧ j < 2 ^ 62) ∧ R (Itr i (j - i).toNat) H1
theorem CG {a : Expr} {ta : TA} {p pos : Pos} (hg : Gl X "range") (hm : X.mg "range" = none) (ha : PA X [a] ta) (hs : starEach [a] X.env = [(false, eval a X.env)] := by rfl) : PI X tg (.Call (.Name "range" p) [a] [] pos) (Jo ta) := by
 intro pins s σ H R I h
 refine Call_ (KB I hg hm boot_range (PyProof.Rows.callWith_type1 (thn (ha pos pins s σ H _ I h) fun us s1 ⟨vs, H1, I1, r1, q1⟩ => ?_) hs rfl))
 obtain ⟨j, e, q1, q2, q⟩ := q1
 subst e
 cases r1 with
 | cons r rr =>
  cases rr
  obtain ⟨t, rfl⟩ := r
  exact call_range_1 (Rr I1 (by lia) (by lia) q1 q2 (by simpa using q))
theorem L6 {a b : Expr} {ta : TA} {p pos : Pos} (hg : Gl X "range") (hm : X.mg "range" = none) (ha : PA X [a, b] ta) (hs : starEach [a, b] X.env = [(false, eval a X.env), (false, eval b X.env)] := by rfl) (hs2 : starEach [b] X.env = [(false, eval b X.env)] := by rfl) :
  PI X tg (.Call (.Name "range" p) [a, b] [] pos) (Jc ta) := by
 intro pins s σ H R I h
 refine Call_ (KB I hg hm boot_range (PyProof.Rows.callWith_type1 (thn (ha pos pins s σ H _ I h) fun us s1 ⟨vs, H1, I1, r1, q1⟩ => ?_) (by rw [hs, hs2]) (by rw [hs2]; rfl)))
 obtain ⟨i, j, e, ⟨q1, q2, q3, q4⟩, q⟩ := q1
 subst e
 cases r1 with
 | cons r rr =>
  cases rr with
  | cons r' rr =>
   cases rr
   obtain ⟨t, rfl⟩ := r
   obtain ⟨t', rfl⟩ := r'
   exact call_range_2 (Rr I1 q1 q2 q3 q4 q)
noncomputable def tFor (wi : TI) (g : TG) (tb : TS) : TS := fun D σ H => wi σ H fun J H1 => ∃ W : Nat → Nat → St → Hp → Prop, (∃ m, W 0 m σ H1) ∧ ∀ i m σ H, W i m σ H →
 (J.stop i H ∧ D.nx σ H) ∨ (J.go i H ∧ ∃ N : St → Hp → Prop, (∀ σ' H', N σ' H' → ∃ m', m' < m ∧ W (i + 1) m' σ' H') ∧ ∀ x H', J.yld i H x H' → g x σ H' fun σ2 H2 => tb { D with nx := N, ct := N, bk := D.nx } σ2 H2)
noncomputable def Ov (fp : List Addr) (h : Heap) : List (Addr × Obj) := fp.filterMap fun b => (h.get? b).map fun o => (b, o)
theorem F7 {fp : List Addr} {h : Heap} {b : Addr} {o : Obj} (hb : b ∈ fp) (e : h.get? b = some o) : (b, o) ∈ Ov fp h := List.mem_filterMap.mpr ⟨b, hb, by rw [e]; rfl⟩
theorem U1 {fp : List Addr} {h : Heap} {p : Addr × Obj} (hp : p ∈ Ov fp h) : p.1 ∈ fp ∧ h.get? p.1 = some p.2 := by
 obtain ⟨b, hb, e⟩ := List.mem_filterMap.mp hp
 cases q : h.get? b with
 | none => rw [q] at e; cases e
 | some o =>
  rw [q] at e
  have e' : (b, o) = p := Option.some.inj e
  subst e'
  exact ⟨hb, q⟩
theorem Inv.pinned {pins : List (Addr × Obj)} {σ : St} {H : Hp} {s : Shared} {fp : List Addr} (I : Inv X pins σ H s) (hf : ∀ b ∈ fp, NT X pins H b) (ho : ∀ b ∈ fp, ∃ o, s.heap.get? b = some o ∧ ∀ v, o.data ≠ .cell v) : Inv X (pins ++ Ov fp s.heap) σ H s :=
 I.pins_of fun p hp => (List.mem_append.mp hp).elim (fun z => I.pin p (List.mem_append_right _ z)) fun z => by
  obtain ⟨hb, e⟩ := U1 z
  obtain ⟨f0, f1, f2, _⟩ := hf p.1 hb
  obtain ⟨o, e', d⟩ := ho p.1 hb
  rw [e] at e'; cases e'
  exact ⟨e, f0, f1, f2, d⟩
theorem Inv.unpinned {pins pl : List (Addr × Obj)} {σ : St} {H : Hp} {s : Shared} (I : Inv X (pins ++ pl) σ H s) : Inv X pins σ H s := I.pins_of fun p hp => I.pin p (List.mem_append_right _ (List.mem_append_left _ hp))
theorem BA {iter : Expr} {body : List Stmt} {wi : TI} {g : TG} {tb : TS} {pos : Pos} (hp : PassesOwn (model X.prog X.w) X.A X.env X.xe) (hc : X.calm = true) (hi : PI X tg iter wi) (hg : PG X tg g) (hb : PSs X body tb)
  (hs : ∀ x, foldedSetIterable iter X.env x = pure x := by intro _; rfl) : PS X (.For tg iter body [] pos) (tFor wi g tb) := by
 intro pins s σ H D I h
 refine wpAny_For (thn (hi pins s σ H _ I h) fun v s1 h1 => thn h1 fun itv s2 h2 => ?_) hs
 obtain ⟨it, fp, tn, J, H2, e, I2, T, st2, f2, W, ⟨m0, w0⟩, turn⟩ := h2
 subst e
 have stat : ∀ {H' : Hp}, (∀ b ∈ fp, H' b = none) → ∀ b ∈ fp, NT X pins H' b := fun hn b hb => ⟨hn b hb, (f2 b hb).2⟩
 refine codeAny_forLoop_any (fun n s' => ∃ i σ' H', Inv X pins σ' H' s' ∧ tn i s'.heap ∧ (∀ b ∈ fp, H' b = none) ∧ W i n σ' H') ?_ m0 ⟨0, σ, H2, I2, st2, fun b hb => (f2 b hb).1, w0⟩
 rintro n s3 ⟨i, σ3, H3, I3, st3, fr3, w3⟩
 rcases turn i n σ3 H3 w3 with ⟨stop, qn⟩ | ⟨go, N, hN, step⟩
 ·refine wpAny_passesOwn hp (thn (T.done X rfl rfl rfl hc i pins s3 σ3 H3 X.xe I3 (stat fr3) st3 stop) fun r s4 zq => ?_)
  obtain ⟨hr, I4⟩ := zq
  subst hr
  exact wpAny_execs_nil ⟨σ3, H3, I4, qn⟩
 ·refine wpAny_passesOwn hp (thn (T.item X rfl rfl rfl hc i pins s3 σ3 H3 X.xe I3 (stat fr3) st3 go) fun r s4 zq => ?_)
  obtain ⟨u, hr, h4⟩ := zq
  subst hr
  refine wpAny_passesOwn hp (thn h4 fun _ s5 zq => ?_)
  obtain ⟨x, H5, I5, r5, y5, st5, fr5⟩ := zq
  have I5' := I5.pinned (stat fr5) (T.obj _ _ st5)
  refine wpAny_passesOwn hp (thn (hg _ s5 σ3 H5 x u _ I5' r5 (step x H5 y5)) fun _ s6 zq => ?_)
  obtain ⟨σ6, H6, I6, q6⟩ := zq
  refine wpAny_passesOwn hp (thn (hb _ s6 σ6 H6 _ I6 q6) fun f s7 q7 => ?_)
  have again : ∀ {σ7 : St} {H7 : Hp}, Inv X (pins ++ Ov fp s5.heap) σ7 H7 s7 → N σ7 H7 → ∃ m, m < n ∧ ∃ i σ' H', Inv X pins σ' H' s7 ∧ tn i s7.heap ∧ (∀ b ∈ fp, H' b = none) ∧ W i m σ' H' := fun {σ7 H7} I7 n7 => by
   obtain ⟨m', hm, w7⟩ := hN σ7 H7 n7
   refine ⟨m', hm, i + 1, σ7, H7, I7.unpinned, T.keep _ _ _ st5 fun b hb o e => (I7.pin (b, o) (List.mem_append_right _ (List.mem_append_right _ (F7 hb e)))).1, fun b hb => ?_, w7⟩
   obtain ⟨o, e, d⟩ := T.obj _ _ st5 b hb
   exact (I7.pin (b, o) (List.mem_append_right _ (List.mem_append_right _ (F7 hb e)))).2.1
  cases f with
  | next => obtain ⟨σ7, H7, I7, n7⟩ := q7; exact again I7 n7
  | cont => obtain ⟨σ7, H7, I7, n7⟩ := q7; exact again I7 n7
  | brk => obtain ⟨σ7, H7, I7, q7⟩ := q7; exact ⟨σ7, H7, I7.unpinned, q7⟩
  | ret v => obtain ⟨x7, σ7, H7, I7, r7, q7⟩ := q7; exact ⟨x7, σ7, H7, I7.unpinned, r7, q7⟩
end
theorem Ci {K : PySem.W.Frag} {a : Addr} {xs : List V} {g : TG} {tb : TS} {D : Ip} {σ : St} {H : Hp} (Pv : Nat → St → Hp → Prop) (h0 : Pv 0 σ H) (hl : ∀ i σ H, i ≤ xs.length → Pv i σ H → SqL K H a xs)
  (hs : ∀ i x σ H, xs[i]? = some x → Pv i σ H → g x σ H fun σ2 H2 => tb { D with nx := Pv (i + 1), ct := Pv (i + 1), bk := D.nx } σ2 H2) (hd : ∀ σ H, Pv xs.length σ H → D.nx σ H) :
  ∃ W : Nat → Nat → St → Hp → Prop, (∃ m, W 0 m σ H) ∧ ∀ i m σ H, W i m σ H →
   ((Itl K a).stop i H ∧ D.nx σ H) ∨ ((Itl K a).go i H ∧ ∃ N : St → Hp → Prop, (∀ σ' H', N σ' H' → ∃ m', m' < m ∧ W (i + 1) m' σ' H') ∧ ∀ x H', (Itl K a).yld i H x H' → g x σ H' fun σ2 H2 => tb { D with nx := N, ct := N, bk := D.nx } σ2 H2) := by
 refine ⟨fun i m σ H => m = xs.length - i ∧ i ≤ xs.length ∧ Pv i σ H, ⟨xs.length, by simp, Nat.zero_le _, h0⟩, ?_⟩
 rintro i m σ H ⟨rfl, hi, p⟩
 have q := hl i σ H hi p
 by_cases hlt : i < xs.length
 ·refine .inr ⟨⟨xs, xs[i], q, by simp [hlt]⟩, Pv (i + 1), fun σ' H' p' => ⟨xs.length - (i + 1), by lia, rfl, hlt, p'⟩, fun x H' y => ?_⟩
  obtain ⟨e, y⟩ := y
  subst e
  exact hs i x σ _ (y xs q) p
 ·have e : i = xs.length := by lia
  subst e
  exact .inl ⟨⟨xs, q, Nat.le_refl _⟩, hd σ H p⟩
theorem UV {K : PySem.W.Frag} {a : Addr} {xs : List V} {g : TG} {tb : TS} {D : Ip} {σ : St} {H : Hp} (Pv : Nat → St → Hp → Prop) (h0 : Pv 0 σ H) (hl : ∀ i σ H, i ≤ xs.length → Pv i σ H → SqT K H a xs)
  (hs : ∀ i x σ H, xs[i]? = some x → Pv i σ H → g x σ H fun σ2 H2 => tb { D with nx := Pv (i + 1), ct := Pv (i + 1), bk := D.nx } σ2 H2) (hd : ∀ σ H, Pv xs.length σ H → D.nx σ H) :
  ∃ W : Nat → Nat → St → Hp → Prop, (∃ m, W 0 m σ H) ∧ ∀ i m σ H, W i m σ H →
   ((Itt K a).stop i H ∧ D.nx σ H) ∨ ((Itt K a).go i H ∧ ∃ N : St → Hp → Prop, (∀ σ' H', N σ' H' → ∃ m', m' < m ∧ W (i + 1) m' σ' H') ∧ ∀ x H', (Itt K a).yld i H x H' → g x σ H' fun σ2 H2 => tb { D with nx := N, ct := N, bk := D.nx } σ2 H2) := by
 refine ⟨fun i m σ H => m = xs.length - i ∧ i ≤ xs.length ∧ Pv i σ H, ⟨xs.length, by simp, Nat.zero_le _, h0⟩, ?_⟩
 rintro i m σ H ⟨rfl, hi, p⟩
 have q := hl i σ H hi p
 by_cases hlt : i < xs.length
 ·refine .inr ⟨⟨xs, xs[i], q, by simp [hlt]⟩, Pv (i + 1), fun σ' H' p' => ⟨xs.length - (i + 1), by lia, rfl, hlt, p'⟩, fun x H' y => ?_⟩
  obtain ⟨e, y⟩ := y
  subst e
  exact hs i x σ _ (y xs q) p
 ·have e : i = xs.length := by lia
  subst e
  exact .inl ⟨⟨xs, q, Nat.le_refl _⟩, hd σ H p⟩
theorem BV {lo : Int} {n : Nat} {g : TG} {tb : TS} {D : Ip} {σ : St} {H : Hp} (Pv : Nat → St → Hp → Prop) (h0 : Pv 0 σ H)
  (hs : ∀ i σ H, i < n → Pv i σ H → g (.int (lo + i)) σ H fun σ2 H2 => tb { D with nx := Pv (i + 1), ct := Pv (i + 1), bk := D.nx } σ2 H2) (hd : ∀ σ H, Pv n σ H → D.nx σ H) :
  ∃ W : Nat → Nat → St → Hp → Prop, (∃ m, W 0 m σ H) ∧ ∀ i m σ H, W i m σ H →
   ((Itr lo n).stop i H ∧ D.nx σ H) ∨ ((Itr lo n).go i H ∧ ∃ N : St → Hp → Prop, (∀ σ' H', N σ' H' → ∃ m', m' < m ∧ W (i + 1) m' σ' H') ∧ ∀ x H', (Itr lo n).yld i H x H' → g x σ H' fun σ2 H2 => tb { D with nx := N, ct := N, bk := D.nx } σ2 H2) := by
 refine ⟨fun i m σ H => m = n - i ∧ i ≤ n ∧ Pv i σ H, ⟨n, by simp, Nat.zero_le _, h0⟩, ?_⟩
 rintro i m σ H ⟨rfl, hi, p⟩
 by_cases hlt : i < n
 ·refine .inr ⟨hlt, Pv (i + 1), fun σ' H' p' => ⟨n - (i + 1), by lia, rfl, hlt, p'⟩, fun x H' y => ?_⟩
  obtain ⟨e, y⟩ := y
  subst e y
  exact hs i σ _ hlt p
 ·have e : i = n := by lia
  subst e
  exact .inl ⟨Nat.le_refl _, hd σ H p⟩
noncomputable abbrev R2 := V → V → Hp → VK → Prop
noncomputable def OpR (X : Cx) (f : Value → Value → Sem Value) (r : R2) : Prop :=
 ∀ (pins : List (Addr × Obj)) (s : Shared) (σ : St) (H : Hp) (x y : V) (v u : Value) (Q : VK), Inv X pins σ H s → RelV x v → RelV y u → r x y H Q →
  wpAny (model X.prog X.w) X.A (f v u) (EP X pins σ Q) X.xe s
noncomputable def UnR (X : Cx) (f : Value → Sem Value) (r : V → Hp → VK → Prop) : Prop :=
 ∀ (pins : List (Addr × Obj)) (s : Shared) (σ : St) (H : Hp) (x : V) (v : Value) (Q : VK), Inv X pins σ H s → RelV x v → r x H Q →
  wpAny (model X.prog X.w) X.A (f v) (EP X pins σ Q) X.xe s
noncomputable def B1 (X : Cx) (f : Value) (r : List V → Hp → VK → Prop) : Prop :=
 ∀ (pins : List (Addr × Obj)) (s : Shared) (σ : St) (H : Hp) (xs : List V) (us : List Value) (Q : VK), Inv X pins σ H s → As xs us → r xs H Q →
  wpAny (model X.prog X.w) X.A (call f us) (EP X pins σ Q) X.xe s
noncomputable def tOp (r : R2) (ta tb : TE) : TE := fun σ H Q => ta σ H fun x H1 => tb σ H1 fun y H2 => r x y H2 Q
noncomputable def tUn (r : V → Hp → VK → Prop) (ta : TE) : TE := fun σ H Q => ta σ H fun x H1 => r x H1 Q
noncomputable def rI (C : Int → Int → Prop) (g : Int → Int → V) : R2 := fun x y H Q => ∃ i j, x = .int i ∧ y = .int j ∧ C i j ∧ Q (g i j) H
noncomputable def rI0 (g : Int → Int → V) : R2 := fun x y H Q => ∃ i j, x = .int i ∧ y = .int j ∧ Q (g i j) H
noncomputable def rU (g : Int → V) : V → Hp → VK → Prop := fun x H Q => ∃ i, x = .int i ∧ Q (g i) H
section
variable {X : Cx} {a b c : Expr} {ta tb tc : TE} {pos : Pos}
theorem Yk (ha : PE X a ta) (hb : PE X b tb) {pins : List (Addr × Obj)} {s : Shared} {σ : St} {H : Hp} {R : V → V → Hp → Prop} (I : Inv X pins σ H s)
  (h : ta σ H fun x H1 => tb σ H1 fun y H2 => R x y H2) {Q : Value → Shared → Prop} {f : Value → Value → Sem Value}
  (hf : ∀ v u s2 x y H2, Inv X pins σ H2 s2 → RelV x v → RelV y u → R x y H2 → wpAny (model X.prog X.w) X.A (f v u) Q X.xe s2) :
  wpAny (model X.prog X.w) X.A (eval a X.env) (fun v s₁ => wpAny (model X.prog X.w) X.A (eval b X.env) (fun u s₂ => wpAny (model X.prog X.w) X.A (f v u) Q X.xe s₂) X.xe s₁) X.xe s := by
 refine thn (ha pins s σ H _ I h) fun v s1 zq => ?_
 obtain ⟨x, H1, I1, r1, q1⟩ := zq
 refine thn (hb pins s1 σ H1 _ I1 q1) fun u s2 zq => ?_
 obtain ⟨y, H2, I2, r2, q2⟩ := zq
 exact hf v u s2 x y H2 I2 r1 r2 q2
theorem AF {op : Operator} {r : R2} (ho : OpR X (binaryOp op) r) (ha : PE X a ta) (hb : PE X b tb) : PE X (.BinOp a op b pos) (tOp r ta tb) := by
 intro pins s σ H Q I h
 exact wpAny_BinOp (Yk ha hb I h fun v u s2 x y H2 I2 rx ry q => ho pins s2 σ H2 x y v u Q I2 rx ry q)
theorem Co {op : UnaryOp} {r : V → Hp → VK → Prop} (ho : UnR X (unaryOp op) r) (ha : PE X a ta) : PE X (.UnaryOp op a pos) (tUn r ta) := by
 intro pins s σ H Q I h
 exact UnaryOp_ (thn (ha pins s σ H _ I h) fun v s1 ⟨x, H1, I1, r1, q1⟩ => ho pins s1 σ H1 x v Q I1 r1 q1)
theorem opI {f : Value → Value → Sem Value} {C : Int → Int → Prop} {g : Int → Int → Int}
  (rule : ∀ (i j : Int) (t u : Tok) (s : Shared) (Q : Value → Shared → Prop) (E : Value → Shared → Prop), C i j → Q (.int (g i j) s.toks) { s with toks := s.toks + 1 } → wpAny (model X.prog X.w) X.A (f (.int i t) (.int j u)) Q E s) :
  OpR X f (rI C fun i j => .int (g i j)) := by
 intro pins s σ H x y v u Q I rx ry h
 obtain ⟨i, j, rfl, rfl, hc, q⟩ := h
 obtain ⟨t, rfl⟩ := rx
 obtain ⟨t', rfl⟩ := ry
 exact rule i j t t' s _ _ hc ⟨.int (g i j), H, I.tok _, ⟨_, rfl⟩, q⟩
theorem opI0 {f : Value → Value → Sem Value} {g : Int → Int → Int}
  (rule : ∀ (i j : Int) (t u : Tok) (s : Shared) (Q : Value → Shared → Prop) (E : Value → Shared → Prop), Q (.int (g i j) s.toks) { s with toks := s.toks + 1 } → wpAny (model X.prog X.w) X.A (f (.int i t) (.int j u)) Q E s) :
  OpR X f (rI0 fun i j => .int (g i j)) := by
 intro pins s σ H x y v u Q I rx ry h
 obtain ⟨i, j, rfl, rfl, q⟩ := h
 obtain ⟨t, rfl⟩ := rx
 obtain ⟨t', rfl⟩ := ry
 exact rule i j t t' s _ _ ⟨.int (g i j), H, I.tok _, ⟨_, rfl⟩, q⟩
theorem Xr {f : Value → Value → Sem Value} {g : Int → Int → Bool}
  (rule : ∀ (i j : Int) (t u : Tok) (s : Shared) (Q : Value → Shared → Prop) (E : Value → Shared → Prop), Q (.bool (g i j)) s → wpAny (model X.prog X.w) X.A (f (.int i t) (.int j u)) Q E s) :
  OpR X f (rI0 fun i j => .bl (g i j)) := by
 intro pins s σ H x y v u Q I rx ry h
 obtain ⟨i, j, rfl, rfl, q⟩ := h
 obtain ⟨t, rfl⟩ := rx
 obtain ⟨t', rfl⟩ := ry
 exact rule i j t t' s _ _ ⟨.bl (g i j), H, I, rfl, q⟩
noncomputable def S9 (i j : Int) : Prop := 0 < j ∧ j < 1073741824
noncomputable def Sw (i j : Int) : Prop := 0 ≤ j ∧ j ≤ 1000000 ∧ i.natAbs < 2 ^ 64
noncomputable def RP (i j : Int) : Prop := (-(2 ^ 64) < i ∧ i < 2 ^ 64) ∨ (-(2 ^ 64) < j ∧ j < 2 ^ 64)
theorem RP.ok {i j : Int} (h : RP i j) : IntMulOk i j := by
 rcases h with ⟨h1, h2⟩ | ⟨h1, h2⟩
 ·exact .of_left (intBits_le_64 h1 h2)
 ·exact .of_right (intBits_le_64 h1 h2)
theorem Ak : OpR X (binaryOp .Add) (rI0 fun i j => .int (i + j)) := opI0 fun _ _ _ _ _ _ _ q => add_int q
theorem Al : OpR X (binaryOp .Sub) (rI0 fun i j => .int (i - j)) := opI0 fun _ _ _ _ _ _ _ q => sub_int q
theorem Hc : OpR X (binaryOp .Mult) (rI RP fun i j => .int (i * j)) := opI fun _ _ _ _ _ _ _ hc q => mul_int q hc.ok
theorem Bx : OpR X (binaryOp .FloorDiv) (rI S9 fun i j => .int (i / j)) := opI fun i j _ _ _ _ _ hc q => by
 have h1 : (0 : Int) < j := hc.1
 have h2 : j < 1073741824 := hc.2
 exact floordiv_int (by lia) (by rw [Int.fdiv_eq_ediv_of_nonneg i (by lia)]; exact q) (.inl (PyProof.noPylong_small (by lia)))
theorem AZ : OpR X (binaryOp .Mod) (rI (fun _ j => 0 < j) fun i j => .int (i % j)) := opI fun i j _ _ _ _ _ hc q => by
 have h1 : (0 : Int) < j := hc
 exact mod_int' (by lia) (by rw [Int.fmod_eq_emod_of_nonneg i (by lia)]; exact q)
theorem T1 : OpR X (binaryOp .Mod) (rI (fun _ j => j ≠ 0) fun i j => .int (i.fmod j)) := opI fun _ _ _ _ _ _ _ hc q => mod_int' hc q
theorem RI : OpR X (binaryOp .Pow) (rI Sw fun i j => .int (i ^ j.toNat)) := opI fun _ _ _ _ _ _ _ hc q => pow_int_small hc.1 hc.2.1 hc.2.2 q
theorem unI {f : Value → Sem Value} {g : Int → Int}
  (rule : ∀ (i : Int) (t : Tok) (s : Shared) (Q : Value → Shared → Prop) (E : Value → Shared → Prop), Q (.int (g i) s.toks) { s with toks := s.toks + 1 } → wpAny (model X.prog X.w) X.A (f (.int i t)) Q E s) :
  UnR X f (rU fun i => .int (g i)) := by
 intro pins s σ H x v Q I rx h
 obtain ⟨i, rfl, q⟩ := h
 obtain ⟨t, rfl⟩ := rx
 exact rule i t s _ _ ⟨.int (g i), H, I.tok _, ⟨_, rfl⟩, q⟩
theorem Bv : UnR X (unaryOp .USub) (rU fun i => .int (-i)) := unI fun _ _ _ _ _ q => neg_int q
end
noncomputable def R4 : V → V → Bool
 | .non, .non => true | .non, .int _ => true | .int _, .non => true | .non, .bl _ => true | .bl _, .non => true | .non, .str _ => true | .str _, .non => true
 | .int _, .int _ => true | .bl _, .bl _ => true | .str _, .str _ => true | .byt _, .byt _ => true
 | .int _, .str _ => true | .str _, .int _ => true | .bl _, .str _ => true | .str _, .bl _ => true
 | _, _ => false
noncomputable def rEq : R2 := fun x y H Q => R4 x y = true ∧ Q (.bl (decide (x = y))) H
noncomputable def rNe : R2 := fun x y H Q => R4 x y = true ∧ Q (.bl (!decide (x = y))) H
theorem Ud {i j : Int} : decide (V.int i = V.int j) = (i == j) := by
 rw [Bool.eq_iff_iff]
 simp
theorem We {i j : Bool} : decide (V.bl i = V.bl j) = (i == j) := by
 rw [Bool.eq_iff_iff]
 simp
theorem UU {i j : Str} : decide (V.str i = V.str j) = (i == j) := by
 rw [Bool.eq_iff_iff]
 simp
theorem T0 {i j : Array UInt8} : decide (V.byt i = V.byt j) = (i.toList == j.toList) := by
 rw [Bool.eq_iff_iff]
 cases i
 cases j
 simp
section
variable {X : Cx} {a b c : Expr} {ta tb tc : TE} {pos : Pos}
theorem A1 {pins : List (Addr × Obj)} {σ : St} {H : Hp} {s : Shared} {Q : VK} {k k' : Bool} (I : Inv X pins σ H s) (q : Q (.bl k) H) (e : k = k') : EP X pins σ Q (.bool k') s := by
 subst e
 exact ⟨.bl k, H, I, rfl, q⟩
theorem Ay : OpR X (compareOp .Eq) rEq := by
 intro pins s σ H x y v u Q I rx ry h
 obtain ⟨hs, q⟩ := h
 cases x with
 | non =>
  cases rx
  cases y with
  | non => cases ry; exact PySem.EqNone.eq_none_none (A1 I q (by simp))
  | bl j => cases ry; exact PySem.EqNone.eq_none_bool (A1 I q (by simp))
  | int j => obtain ⟨t', rfl⟩ := ry; exact PySem.EqNone.eq_none_int (A1 I q (by simp))
  | str j => obtain ⟨t', rfl⟩ := ry; exact PySem.EqNone.eq_none_str (A1 I q (by simp))
  | _ => exact absurd (show false = true from hs) Bool.false_ne_true
 | bl i =>
  cases rx
  cases y with
  | non => cases ry; exact PySem.EqNone.eq_bool_none (A1 I q (by simp))
  | bl j => cases ry; exact eq_bool (A1 I q We)
  | str j => obtain ⟨t', rfl⟩ := ry; exact PySem.EqMixed.eq_bool_str (A1 I q (by simp))
  | _ => exact absurd (show false = true from hs) Bool.false_ne_true
 | int i =>
  obtain ⟨t, rfl⟩ := rx
  cases y with
  | non => cases ry; exact PySem.EqNone.eq_int_none (A1 I q (by simp))
  | int j => obtain ⟨t', rfl⟩ := ry; exact eq_int (A1 I q Ud)
  | str j => obtain ⟨t', rfl⟩ := ry; exact PySem.EqMixed.eq_int_str (A1 I q (by simp))
  | _ => exact absurd (show false = true from hs) Bool.false_ne_true
 | str i =>
  obtain ⟨t, rfl⟩ := rx
  cases y with
  | non => cases ry; exact PySem.EqNone.eq_str_none (A1 I q (by simp))
  | bl j => cases ry; exact PySem.EqMixed.eq_str_bool (A1 I q (by simp))
  | int j => obtain ⟨t', rfl⟩ := ry; exact PySem.EqMixed.eq_str_int (A1 I q (by simp))
  | str j => obtain ⟨t', rfl⟩ := ry; exact eq_str (A1 I q UU)
  | _ => exact absurd (show false = true from hs) Bool.false_ne_true
 | byt i =>
  obtain ⟨t, rfl⟩ := rx
  cases y with
  | byt j => obtain ⟨t', rfl⟩ := ry; exact PySem.W.eq_bytes (A1 I q T0)
  | _ => exact absurd (show false = true from hs) Bool.false_ne_true
 | _ => cases y <;> exact absurd (show false = true from hs) Bool.false_ne_true
theorem Dq : OpR X (compareOp .NotEq) rNe := by
 intro pins s σ H x y v u Q I rx ry h
 obtain ⟨hs, q⟩ := h
 cases x with
 | non =>
  cases rx
  cases y with
  | non => cases ry; exact PySem.EqNone.ne_none_none (A1 I q (by simp))
  | bl j => cases ry; exact PySem.EqNone.ne_none_bool (A1 I q (by simp))
  | int j => obtain ⟨t', rfl⟩ := ry; exact PySem.EqNone.ne_none_int (A1 I q (by simp))
  | str j => obtain ⟨t', rfl⟩ := ry; exact PySem.EqNone.ne_none_str (A1 I q (by simp))
  | _ => exact absurd (show false = true from hs) Bool.false_ne_true
 | bl i =>
  cases rx
  cases y with
  | non => cases ry; exact PySem.EqNone.ne_bool_none (A1 I q (by simp))
  | bl j => cases ry; exact ne_bool (A1 I q (congrArg not We))
  | str j => obtain ⟨t', rfl⟩ := ry; exact PySem.EqMixed.ne_bool_str (A1 I q (by simp))
  | _ => exact absurd (show false = true from hs) Bool.false_ne_true
 | int i =>
  obtain ⟨t, rfl⟩ := rx
  cases y with
  | non => cases ry; exact PySem.EqNone.ne_int_none (A1 I q (by simp))
  | int j => obtain ⟨t', rfl⟩ := ry; exact ne_int (A1 I q (congrArg not Ud))
  | str j => obtain ⟨t', rfl⟩ := ry; exact PySem.EqMixed.ne_int_str (A1 I q (by simp))
  | _ => exact absurd (show false = true from hs) Bool.false_ne_true
 | str i =>
  obtain ⟨t, rfl⟩ := rx
  cases y with
  | non => cases ry; exact PySem.EqNone.ne_str_none (A1 I q (by simp))
  | bl j => cases ry; exact PySem.EqMixed.ne_str_bool (A1 I q (by simp))
  | int j => obtain ⟨t', rfl⟩ := ry; exact PySem.EqMixed.ne_str_int (A1 I q (by simp))
  | str j => obtain ⟨t', rfl⟩ := ry; exact ne_str (A1 I q (congrArg not UU))
  | _ => exact absurd (show false = true from hs) Bool.false_ne_true
 | byt i =>
  obtain ⟨t, rfl⟩ := rx
  cases y with
  | byt j => obtain ⟨t', rfl⟩ := ry; exact PySem.W.ne_bytes (A1 I q (congrArg not T0))
  | _ => exact absurd (show false = true from hs) Bool.false_ne_true
 | _ => cases y <;> exact absurd (show false = true from hs) Bool.false_ne_true
theorem Da : OpR X (compareOp .Lt) (rI0 fun i j => .bl (decide (i < j))) := Xr fun _ _ _ _ _ _ _ q => lt_int q
theorem Sr : OpR X (compareOp .LtE) (rI0 fun i j => .bl (decide (i ≤ j))) := Xr fun _ _ _ _ _ _ _ q => le_int q
theorem Cq : OpR X (compareOp .Gt) (rI0 fun i j => .bl (decide (j < i))) := Xr fun _ _ _ _ _ _ _ q => gt_int q
theorem UY : OpR X (compareOp .GtE) (rI0 fun i j => .bl (decide (j ≤ i))) := Xr fun _ _ _ _ _ _ _ q => ge_int q
theorem Om : OpR X (compareOp .Is) (fun x y H Q => y = .non ∧ Q (.bl (decide (x = .non))) H) := by
 intro pins s σ H x y v u Q I rx ry h
 obtain ⟨rfl, q⟩ := h
 cases ry
 refine is_none_gen (A1 I q ?_)
 cases x <;> first
  | (cases rx; rfl)
  | (obtain ⟨t, rfl⟩ := rx; rfl)
theorem Wh (b : Expr) {op : CmpOp} (h : op ≠ .In := by decide) (h2 : op ≠ .NotIn := by decide) : behindInMarks op b = false := by
 have e1 : (op == CmpOp.In) = false := by cases op <;> first | rfl | exact absurd rfl h
 have e2 : (op == CmpOp.NotIn) = false := by cases op <;> first | rfl | exact absurd rfl h2
 cases b <;> simp [behindInMarks, e1, e2]
theorem UT {op : CmpOp} {r : R2} (ho : OpR X (compareOp op) r) (ha : PE X a ta) (hb : PE X b tb) (hm : behindInMarks op b = false) : PE X (.Compare a [op] [b] pos) (tOp r ta tb) := by
 intro pins s σ H Q I h
 exact wpAny_Compare1 (Yk ha hb I h fun v u s2 x y H2 I2 rx ry q => ho pins s2 σ H2 x y v u Q I2 rx ry q) hm
noncomputable def Hd (t : TE) : TT := fun σ H Q => t σ H fun x H' => ∃ k, x = .bl k ∧ Q k H'
theorem UX {op : CmpOp} {r : R2} (ho : OpR X (compareOp op) r) (ha : PE X a ta) (hb : PE X b tb) (hm : behindInMarks op b = false) : PT X (.Compare a [op] [b] pos) (Hd (tOp r ta tb)) := by
 intro pins s σ H Q I h
 refine wpAny_isTrue_Compare1 (thn (ha pins s σ H _ I h) fun v s1 ⟨x, H1, I1, r1, q1⟩ => thn (hb pins s1 σ H1 _ I1 q1) fun u s2 ⟨y, H2, I2, r2, q2⟩ =>
  thn (ho pins s2 σ H2 x y v u _ I2 r1 r2 q2) fun c s3 ⟨z, H3, I3, r3, k, e, q3⟩ => ?_) hm
 subst e
 cases r3
 exact wpAny_truthy_bool ⟨H3, I3, q3⟩
theorem N3 : (sizeLine : Nat) < 2 ^ 63 := by rw [sizeLine_eq]; decide
theorem vals1 {x : V} {us : List Value} (r : As [x] us) : ∃ u, us = [u] ∧ RelV x u := by
 cases r with
 | cons r1 r2 => cases r2; exact ⟨_, rfl, r1⟩
theorem vals2 {x y : V} {us : List Value} (r : As [x, y] us) : ∃ u w', us = [u, w'] ∧ RelV x u ∧ RelV y w' := by
 cases r with
 | cons r1 r2 =>
  cases r2 with
  | cons r3 r4 => cases r4; exact ⟨_, _, rfl, r1, r3⟩
theorem Dt : B1 X (.builtin "abs") (fun xs H Q => ∃ i, xs = [.int i] ∧ Q (.int (if i < 0 then -i else i)) H) := by
 intro pins s σ H xs us Q I r h
 obtain ⟨i, rfl, q⟩ := h
 obtain ⟨u, rfl, t, rfl⟩ := vals1 r
 exact call_abs_int fun u tk => ⟨.int (if i < 0 then -i else i), H, I.tok _, ⟨_, rfl⟩, q⟩
theorem MQ (hc : X.calm = true) : B1 X (.builtin "max") (fun xs H Q => ∃ i j, xs = [.int i, .int j] ∧ Q (.int (if j > i then j else i)) H) := by
 intro pins s σ H xs us Q I r h
 obtain ⟨i, j, rfl, q⟩ := h
 obtain ⟨u, w', rfl, ⟨t, rfl⟩, ⟨t', rfl⟩⟩ := vals2 r
 refine max_two_ints (I.ok.hd hc) fun h' tk k => ⟨_, H, I.kept k, ?_, q⟩
 by_cases hj : j > i
 ·rw [if_pos hj, if_pos hj]; exact ⟨_, rfl⟩
 ·rw [if_neg hj, if_neg hj]; exact ⟨_, rfl⟩
theorem QK (hc : X.calm = true) : B1 X (.builtin "min") (fun xs H Q => ∃ i j, xs = [.int i, .int j] ∧ Q (.int (if j < i then j else i)) H) := by
 intro pins s σ H xs us Q I r h
 obtain ⟨i, j, rfl, q⟩ := h
 obtain ⟨u, w', rfl, ⟨t, rfl⟩, ⟨t', rfl⟩⟩ := vals2 r
 refine min_two_ints (I.ok.hd hc) fun h' tk k => ⟨_, H, I.kept k, ?_, q⟩
 by_cases hj : j < i
 ·rw [if_pos hj, if_pos hj]; exact ⟨_, rfl⟩
 ·rw [if_neg hj, if_neg hj]; exact ⟨_, rfl⟩
theorem Up : B1 X (.type "int") (fun xs H Q => (∃ i, xs = [.int i] ∧ Q (.int i) H) ∨ ∃ k, xs = [.bl k] ∧ Q (.int (if k then 1 else 0)) H) := by
 intro pins s σ H xs us Q I r h
 rcases h with ⟨i, rfl, q⟩ | ⟨k, rfl, q⟩
 ·obtain ⟨u, rfl, t, rfl⟩ := vals1 r
  exact call_int_int ⟨.int i, H, I, ⟨_, rfl⟩, q⟩
 ·obtain ⟨u, rfl, r1⟩ := vals1 r
  cases r1
  exact call_int_bool ⟨.int (if k then 1 else 0), H, I.tok _, ⟨_, rfl⟩, q⟩
end
structure Ti (h : Heap) (x dx C : Addr) (mA : Str → Option Value) : Prop where
 obj : h.get? x = some (PySem.W.instObj C dx)
 ns : h.Ns1 dx mA
 ne : dx ≠ x
theorem Uz {h : Heap} {dx : Addr} {mA : Str → Option Value} (n : h.Ns1 dx mA) : ∃ od, h.get? dx = some od ∧ ∀ name, PySem.W.lookIn name od = some (mA name) := by
 obtain ⟨o, es, ep, ho, hd, hk, _, hm⟩ := n
 refine ⟨o, ho, fun name => ?_⟩
 have e := hm name
 unfold nsFind findBy at e
 rw [← Array.find?_toList] at e
 unfold PySem.W.lookIn
 rw [hd]
 dsimp only
 split
 ·rename_i y q
  rw [q] at e
  exact congrArg some e
 ·rename_i q
  rw [q] at e
  have a : es.toList.any (·.refKey) = false := by
   rw [List.any_eq_false]
   intro y hy
   obtain ⟨z, t, hkey⟩ := hk y (Array.mem_toList_iff.mp hy)
   simp [DictEntry.refKey, hkey]
  have a' : ¬ es.toList.any (·.refKey) = true := by rw [a]; exact Bool.false_ne_true
  rw [if_neg a']
  exact congrArg some e
theorem Ti.look {h : Heap} {x dx C : Addr} {mA : Str → Option Value} (I : Ti h x dx C mA) : ∃ od, PySem.W.InstAt h x (PySem.W.instObj C dx) C (some od) ∧ ∀ name, PySem.W.lookIn name od = some (mA name) :=
 let ⟨od, ho, hl⟩ := Uz I.ns
 ⟨od, ⟨I.obj, rfl, rfl, ho⟩, hl⟩
section
variable {prog : Program} {w : World} {A : Around} {E : Value → Shared → Prop} {s : Shared} {K : PySem.W.Frag} {x dx C f : Addr} {mA : Str → Option Value} {name : Str} {v : Value}
theorem Xp {expr : Bool} {Q : Value → Shared → Prop} (X : K.In s.heap) (I : Ti s.heap x dx C mA) (hg : PySem.W.plainGet K C name = true) (hh : PySem.W.hasDictIn K C = true)
  (ha : PySem.W.findIn K (.ref C) name = some none) (hv : mA name = some v) (hv' : PySem.W.handedIn v = true) (h : Q v { s with toks := s.toks + 1 }) :
  wpAny (model prog w) A (getAttr (.ref x) name expr) Q E s := by
 obtain ⟨od, J, hl⟩ := I.look
 exact PySem.W.get_value X J (PySem.W.plainGet_of hg).1 (PySem.W.findObj_own hh ha rfl (by rw [hl, hv])) hv' h
theorem WA {pl : Sem Bool} {Q : Value × List Value → Shared → Prop} (X : K.In s.heap) (I : Ti s.heap x dx C mA) (hg : PySem.W.plainGet K C name = true)
  (hf : PySem.W.findIn K (.ref C) name = some (some (.ref f))) (ht : PySem.W.isFn K (.ref f) = true) (hv : mA name = none) (h : Q (.ref f, [.ref x]) s) :
  wpAny (model prog w) A (getMethod (.ref x) name pl) Q E s := by
 obtain ⟨od, J, hl⟩ := I.look
 exact PySem.W.method_fn X J (PySem.W.plainGet_of hg).1 (PySem.W.plainGet_of hg).2 hf (beq_iff_eq.mp ht) (by show (PySem.W.lookIn name od).map (·.isSome) = some false; rw [hl, hv]; rfl) h
theorem W6 {ns : List Str} {Q : Unit → Shared → Prop} (X : K.In s.heap) (I : Ti s.heap x dx C mA)
  (hs : PySem.W.findIn K (.ref C) "__setattr__" = some (some (.builtin "object.__setattr__"))) (hp : PySem.W.plainOver K C = true) (ht : PySem.W.takerIn K C name = some none) (hh : PySem.W.hasDictIn K C = true)
  (hw : PySem.Within mA ns) (hsz : ns.length ≤ sizeLine)
  (h : ∀ h', Ti h' x dx C (fun y => if y = name then some v else mA y) → Heap.SameBut dx s.heap h' → Q () { s with heap := h', toks := s.toks + 2 }) :
  wpAny (model prog w) A (setAttr (.ref x) name v) Q E s := by
 obtain ⟨od, J, hl⟩ := I.look
 refine PySem.W.set_plain X J hs (PySem.W.osa_open (s := { s with toks := s.toks + 1 }) (r := none) X J hp ht fun b => ?_)
 obtain ⟨cd, hc, hd'⟩ := PySem.W.any_some hh
 have hx : s.heap.get? x = some ⟨.ref C, some dx, .plain, #[]⟩ := I.obj
 refine wpAny_bind (wpAny_pure (wpAny_bind (wpAny_bind (wpAny_loadPart hx (wpAny_bind (PySem.W.Looks.here (s := { s with toks := s.toks + 1 }) (PySem.W.looks_clsIn X hc) ?_))))))
 rw [hd']
 refine wpAny_pure (a := some dx) (wpAny_bind (wpAny_pure (wpAny_bind ?_)))
 refine wpAny_nsSet1 (s := { s with toks := s.toks + 1 }) I.ns fun h' hn2 hs2 => ?_
 obtain ⟨oD, esD, epD, hoD, hdD, hcD⟩ := hn2.count (PySem.Within.cons name v hw)
 refine wpAny_bind (wpAny_lookBehind hoD (by rw [hdD]; exact pastItsLine_dict (Nat.le_trans hcD (by rw [List.length_cons]; lia))) ?_)
 exact wpAny_pure (h _ ⟨(hs2.2 _ (Ne.symm I.ne)).trans I.obj, hn2, I.ne⟩ hs2)
theorem Vu {R : Result → Shared → Prop} {vs : List Value} {kw : List (Str × Value)} (X : K.In s.heap) (hm : PySem.W.makesIn K C = true)
  (hi : PySem.W.findIn K (.ref C) "__init__" = some (some (.ref f))) (hf : PySem.W.typeIn K (.ref f) = some (.type "function"))
  (h : codeAny (model prog w) (A.under (.builtin "type.__call__" ⟨.ref C :: vs, kw⟩)) (.call (.ref f) ⟨.ref (s.heap.objs.size + 1) :: vs, kw⟩) (PySem.W.InitBack (s.heap.objs.size + 1) R)
   { s with heap := (s.heap.push PySem.W.emptyDict).push (PySem.W.instObj C s.heap.objs.size) }) :
  codeAny (model prog w) A (.call (.ref C) ⟨vs, kw⟩) R s := by
 obtain ⟨hh, g, d, t, os⟩ := s
 exact PySem.W.make_core (PySem.W.makes_of X hm) (PySem.W.looks_findIn X hi) (fun self => PySem.W.bind_fn X self hf) (.inl rfl) h
end
noncomputable def Io (f : Str) (v : V) : List (Str × V) → List (Str × V)
 | [] => [(f, v)]
 | (g, x) :: r => if g = f then (g, v) :: r else (g, x) :: Io f v r
theorem Mx (f g : Str) (v : V) : ∀ fs : List (Str × V), (Io f v fs).lookup g = if g = f then some v else fs.lookup g
 | [] => by
  show List.lookup g [(f, v)] = _
  by_cases h : g = f
  ·have hb : (g == f) = true := beq_iff_eq.mpr h
   simp only [List.lookup, hb, if_pos h]
  ·have hb : (g == f) = false := beq_eq_false_iff_ne.mpr h
   simp only [List.lookup, hb, if_neg h]
 | (k, x) :: r => by
  have ih := Mx f g v r
  rw [show Io f v ((k, x) :: r) = (if k = f then (k, v) :: r else (k, x) :: Io f v r) from rfl]
  by_cases hk : k = f
  ·rw [if_pos hk]
   by_cases h : g = k
   ·have hb : (g == k) = true := beq_iff_eq.mpr h
    simp only [List.lookup, hb, if_pos (h.trans hk)]
   ·have hb : (g == k) = false := beq_eq_false_iff_ne.mpr h
    simp only [List.lookup, hb, if_neg (fun e : g = f => h (e.trans hk.symm))]
  ·rw [if_neg hk]
   by_cases h : g = k
   ·have hb : (g == k) = true := beq_iff_eq.mpr h
    simp only [List.lookup, hb, if_neg (fun e : g = f => hk (h.symm.trans e))]
   ·have hb : (g == k) = false := beq_eq_false_iff_ne.mpr h
    simp only [List.lookup, hb]
    exact ih
theorem MG (f : Str) (v : V) : ∀ fs : List (Str × V), f ∈ (Io f v fs).map (·.1) ∧ ∀ g, g ∈ fs.map (·.1) → g ∈ (Io f v fs).map (·.1)
 | [] => ⟨by simp [Io], fun g h => by simp at h⟩
 | (k, x) :: r => by
  obtain ⟨i1, i2⟩ := MG f v r
  rw [show Io f v ((k, x) :: r) = (if k = f then (k, v) :: r else (k, x) :: Io f v r) from rfl]
  by_cases hk : k = f
  ·rw [if_pos hk]
   subst hk
   exact ⟨by simp, fun g h => by simpa using h⟩
  ·rw [if_neg hk]
   refine ⟨?_, fun g h => ?_⟩
   ·rw [List.map_cons]
    exact List.mem_cons_of_mem _ i1
   ·rw [List.map_cons] at h ⊢
    rcases List.mem_cons.mp h with e | e
    ·exact List.mem_cons.mpr (.inl e)
    ·exact List.mem_cons_of_mem _ (i2 g e)
theorem M4 (f : Str) (v : V) : ∀ fs : List (Str × V), (Io f v fs).length ≤ fs.length + 1
 | [] => by simp [Io]
 | (k, x) :: r => by
  have ih := M4 f v r
  rw [show Io f v ((k, x) :: r) = (if k = f then (k, v) :: r else (k, x) :: Io f v r) from rfl]
  by_cases hk : k = f
  ·rw [if_pos hk, List.length_cons, List.length_cons]; lia
  ·rw [if_neg hk, List.length_cons, List.length_cons]; lia
theorem GK.some_of {v : V} {o : Option Value} (r : GK (some v) o) : ∃ u, o = some u ∧ RelV v u := by
 cases o with
 | none => exact (show False from r).elim
 | some u => exact ⟨u, rfl, r⟩
theorem GK.none_of {o : Option Value} (r : GK none o) : o = none := by
 cases o with
 | none => rfl
 | some u => exact (show False from r).elim
theorem VS {v : V} {u : Value} (r : RelV v u) : PySem.W.handedIn u = true := by
 cases v with
 | non => cases (show u = Value.none from r); rfl
 | bl b => cases (show u = Value.bool b from r); rfl
 | int i => obtain ⟨t, e⟩ := (show ∃ t, u = Value.int i t from r); cases e; rfl
 | str x => obtain ⟨t, e⟩ := (show ∃ t, u = Value.str x t from r); cases e; rfl
 | byt b => obtain ⟨t, e⟩ := (show ∃ t, u = Value.bytes b t from r); cases e; rfl
 | flt b => obtain ⟨t, e⟩ := (show ∃ t, u = Value.float b t from r); cases e; rfl
 | ref a => cases (show u = Value.ref a from r); rfl
 | ty n => cases (show u = Value.type n from r); rfl
section
variable {P : Program} {w : World} {H H' : Hp} {h h' : Heap} {a C dx : Addr} {fs fs' : List (Str × V)}
theorem NY (hok : HOk P w H h) (e : H a = some (.ins C dx fs)) : ∃ mA, Ti h a dx C mA ∧ (∀ f, GK (fs.lookup f) (mA f)) ∧ PySem.Within mA (fs.map (·.1)) ∧ fs.length ≤ 1000 ∧ H dx = some (.own a) := by
 obtain ⟨d, z, ne, ob, mA, n, r, q⟩ := (show BU P w H h a (.ins C dx fs) from hok a _ e)
 exact ⟨mA, ⟨ob, n, ne⟩, r, q, z, d⟩
end
structure Cls (K : PySem.W.Frag) (C : Addr) : Prop where
 pg : PySem.W.plainGet K C Str.empty = true
 hd : PySem.W.hasDictIn K C = true
 po : PySem.W.plainOver K C = true
 sa : PySem.W.findIn K (.ref C) "__setattr__" = some (some (.builtin "object.__setattr__"))
theorem Cls.get {K : PySem.W.Frag} {C : Addr} (c : Cls K C) (f : Str) : PySem.W.plainGet K C f = true := c.pg
noncomputable def Hq (K : PySem.W.Frag) (C : Addr) (f : Str) : Prop := PySem.W.findIn K (.ref C) f = some none
theorem Hq.taker {K : PySem.W.Frag} {C : Addr} {f : Str} (n : Hq K C f) : PySem.W.takerIn K C f = some none := by
 unfold PySem.W.takerIn
 rw [show PySem.W.findIn K (.ref C) f = some none from n]
 rfl
structure Ts (K : PySem.W.Frag) (C : Addr) (m : Str) (f : Addr) : Prop where
 at_ : PySem.W.findIn K (.ref C) m = some (some (.ref f))
 fn : PySem.W.isFn K (.ref f) = true
 kp : PySem.W.keepIn K (.ref f) = true
section
variable {X : Cx} {pins : List (Addr × Obj)} {σ : St} {H : Hp} {s : Shared} {a C dx : Addr} {fs : List (Str × V)} {f : Str} {v : V} {A : Around} {E : Value → Shared → Prop}
theorem Tr {b : Bool} {Q : Value → Shared → Prop} (I : Inv X pins σ H s) (e : H a = some (.ins C dx fs)) (c : Cls X.K C) (n : Hq X.K C f) (l : fs.lookup f = some v)
  (h : ∀ u s', Inv X pins σ H s' → RelV v u → Q u s') : wpAny (model X.prog X.w) A (getAttr (.ref a) f b) Q E s := by
 obtain ⟨mA, O, r, _, _, _⟩ := NY I.hok e
 obtain ⟨u, hu, ru⟩ := GK.some_of (v := v) (o := mA f) (by rw [← l]; exact r f)
 exact Xp I.kIn O (c.get f) c.hd n hu (VS ru) (h u _ (I.tok _) ru)
theorem GN {m : Str} {g : Addr} {pl : Sem Bool} {Q : Value × List Value → Shared → Prop} (I : Inv X pins σ H s) (e : H a = some (.ins C dx fs)) (c : Cls X.K C) (k : Ts X.K C m g) (l : fs.lookup m = none)
  (h : Q (.ref g, [.ref a]) s) : wpAny (model X.prog X.w) A (getMethod (.ref a) m pl) Q E s := by
 obtain ⟨mA, O, r, _, _, _⟩ := NY I.hok e
 have hn : mA m = none := GK.none_of (by rw [← l]; exact r m)
 exact WA I.kIn O (c.get m) k.at_ k.fn hn h
theorem Tk {y : V} {u : Value} {Q : Unit → Shared → Prop} (I : Inv X pins σ H s) (e : H a = some (.ins C dx fs)) (c : Cls X.K C) (n : Hq X.K C f) (hl : fs.length < 1000) (ry : RelV y u)
  (h : ∀ s', Inv X pins σ (upd H a (.ins C dx (Io f y fs))) s' → Q () s') : wpAny (model X.prog X.w) A (setAttr (.ref a) f u) Q E s := by
 obtain ⟨mA, O, r, wi, _, ho⟩ := NY I.hok e
 have hz : (fs.map (·.1)).length ≤ sizeLine := by rw [List.length_map, sizeLine_eq]; lia
 refine W6 I.kIn O c.sa c.po n.taker c.hd wi hz fun h' O' sb => h _ ?_
 have hd : ∃ o, h'.get? dx = some o := let ⟨o, _, _, e', _⟩ := O'.ns; ⟨o, e'⟩
 refine I.write (x := a) (e := dx) (by rw [e]; exact True.intro) (.inr ho) (fun b q hb z => (sb.2 b hb).trans z) hd ?_
 refine ⟨by rw [AN O.ne]; exact ho, ?_, O.ne, O'.obj, _, O'.ns, fun g => ?_, fun g hg => ?_⟩
 ·have := M4 f y fs; lia
 ·show GK ((Io f y fs).lookup g) (if g = f then some u else mA g)
  rw [Mx]
  by_cases q : g = f
  ·rw [if_pos q, if_pos q]; exact ry
  ·rw [if_neg q, if_neg q]; exact r g
 ·by_cases q : g = f
  ·rw [q]; exact (MG f y fs).1
  ·refine (MG f y fs).2 g (wi g fun z => hg ?_)
   show (if g = f then some u else mA g) = none
   rw [if_neg q]; exact z
theorem Inv.made (I : Inv X pins σ H s) : Inv X pins σ (upd (upd H s.heap.objs.size (.own (s.heap.objs.size + 1))) (s.heap.objs.size + 1) (.ins C s.heap.objs.size []))
  { s with heap := (s.heap.push PySem.W.emptyDict).push (PySem.W.instObj C s.heap.objs.size) } := by
 have e1 : (s.heap.push PySem.W.emptyDict).get? s.heap.objs.size = some PySem.W.emptyDict := Heap.get?_push_size s.heap rfl
 have e2 : ((s.heap.push PySem.W.emptyDict).push (PySem.W.instObj C s.heap.objs.size)).get? (s.heap.objs.size + 1) = some (PySem.W.instObj C s.heap.objs.size) := by
  have := Heap.get?_push_size (s.heap.push PySem.W.emptyDict) (o := PySem.W.instObj C s.heap.objs.size) rfl
  rwa [Heap.size_push] at this
 have e3 : (s.heap.push PySem.W.emptyDict).Ns s.heap.objs.size (fun _ => none) := ⟨PySem.W.emptyDict, #[], _, e1, rfl, (fun e he => absurd he (by simp)), fun _ => rfl⟩
 have I1 := I.laid (a := s.heap.objs.size) (o := .own (s.heap.objs.size + 1)) (h' := s.heap.push PySem.W.emptyDict) (t' := s.toks) (fun b u q => Heap.get?_push_of_some _ q) (Nat.le_refl _) ⟨_, e1⟩
 refine I1.laid (a := s.heap.objs.size + 1) (o := .ins C s.heap.objs.size []) (t' := s.toks) (fun b u q => Heap.get?_push_of_some _ q) (Nat.le_of_eq (Heap.size_push _ _)) ?_
 have ne : s.heap.objs.size ≠ s.heap.objs.size + 1 := Nat.ne_of_lt (Nat.lt_succ_self _)
 refine ⟨by rw [AN ne, AQ], Nat.zero_le _, ne, e2, fun _ => none, (Heap.Ns1.of_empty e3).at fun o q => Heap.get?_push_of_some _ q, fun _ => True.intro, fun y hy => absurd rfl hy⟩
theorem XJ {prog : Program} {w : World} {env : Env} {e : Expr} {f : Str} {pos : Pos} {s : Shared} {Q : Value → Shared → Prop} (hb : attributeBase e f env (eval e env) = eval e env)
  (h : wpAny (model prog w) A (eval e env) (fun o s₁ => wpAny (model prog w) A (getAttr o f true) Q E s₁) E s) : wpAny (model prog w) A (eval (.Attribute e f pos) env) Q E s :=
 Attribute_any_ h (by rw [arm_eval_Attribute, hb])
end
noncomputable def Pm (K : PySem.W.Frag) (ta : TE) (f : Str) : TE := fun σ H Q => ta σ H fun x H1 => ∃ a C dx fs v, x = .ref a ∧ H1 a = some (.ins C dx fs) ∧ Cls K C ∧ Hq K C f ∧ fs.lookup f = some v ∧ Q v H1
noncomputable def Pj (K : PySem.W.Frag) (ta tv : TE) (f : Str) : TS := fun D σ H => tv σ H fun y H1 => ta σ H1 fun x H2 => ∃ a C dx fs, x = .ref a ∧ H2 a = some (.ins C dx fs) ∧ Cls K C ∧ Hq K C f ∧ fs.length < 1000 ∧
 D.nx σ (upd H2 a (.ins C dx (Io f y fs)))
section
variable {X : Cx} {o e value : Expr} {f : Str} {pos pos' tpos : Pos} {ta tv : TE}
theorem Bw (he : PE X e ta) (hb : attributeBase e f X.env (eval e X.env) = eval e X.env) : PE X (.Attribute e f pos) (Pm X.K ta f) := by
 intro pins s σ H Q I h
 refine XJ hb (thn (he pins s σ H _ I h) fun u s1 zq => ?_)
 obtain ⟨x, H1, I1, rx, a, C, dx, fs, v, ex, ea, c, n, l, q⟩ := zq
 subst ex
 obtain rfl : u = Value.ref a := rx
 exact Tr I1 ea c n l fun u' s2 I2 ru => ⟨v, H1, I2, ru, q⟩
theorem OM (ha : PE X o ta) (hv : PE X value tv) (hs : swapsWith value (some (.Attribute o f pos')) pos.line X.env = pure false) : PS X (.Assign [.Attribute o f pos'] value pos) (Pj X.K ta tv f) := by
 intro pins s σ H D I h
 refine plainObj_wpAny_Assign_Attribute (thn (hv pins s σ H _ I h) fun u s1 ⟨y, H1, I1, ry, q⟩ => thn (ha pins s1 σ H1 _ I1 q) fun ov s2 ⟨x, H2, I2, rx, a, C, dx, fs, ex, ea, c, n, l, q2⟩ => ?_) hs
 subst ex
 obtain rfl : ov = Value.ref a := rx
 exact Tk I2 ea c n l ry fun s3 I3 => ⟨σ, _, I3, q2⟩
end
section
variable {X : Cx} {pins : List (Addr × Obj)} {σ : St} {H : Hp} {s : Shared} {A : Around} {E : Value → Shared → Prop} {Q : Value → Shared → Prop} {c : Value} {b : Bool}
inductive GH (K : PySem.W.Frag) (H : Hp) : V → Value → Prop where
 | non : GH K H .non (.type "NoneType")
 | bl (x : Bool) : GH K H (.bl x) (.type "bool")
 | int (i : Int) : GH K H (.int i) (.type "int")
 | str (x : Str) : GH K H (.str x) (.type "str")
 | flt (x : UInt64) : GH K H (.flt x) (.type "float")
 | lst {a : Addr} {xs : List V} (e : H a = some (.lst xs)) : GH K H (.ref a) (.type "list")
 | frz {a : Addr} {o : Obj} {xs : List V} (e : H a = some (.frz o (.lst xs))) : GH K H (.ref a) (.type "list")
 | tup {a : Addr} {xs : List V} (e : H a = some (.tup xs)) : GH K H (.ref a) (.type "tuple")
 | dK {a : Addr} {kvs : List (Key × V)} (e : H a = some (.dK kvs)) : GH K H (.ref a) (.type "dict")
 | dT {a : Addr} {kvs : List (List Key × V)} (e : H a = some (.dT kvs)) : GH K H (.ref a) (.type "dict")
 | ins {a C dx : Addr} {fs : List (Str × V)} (e : H a = some (.ins C dx fs)) (cl : Cls K C) (ha : PySem.W.findIn K (.ref C) "__class__" = some (some (.builtin "object.__class__")))
   (hn : PySem.W.specialIn K (.builtin "object.__class__") "__get__" = some (some (.builtin "getset_descriptor.__get__"))) (htk : PySem.W.takesIn K (.builtin "object.__class__") = some true)
   (hm : PySem.W.mroIn K C (.type "object") = some true) : GH K H (.ref a) (.ref C)
theorem U4 {x : V} {u t : Value} (I : Inv X pins σ H s) (rx : RelV x u) (ty : GH X.K H x t) (e : PySem.W.kitOne X.K t c = some b) (h : ∀ tk, Q (.bool b) { s with toks := tk }) :
  wpAny (model X.prog X.w) A (call (.builtin "isinstance") [u, c]) Q E s := by
 cases ty with
 | non => cases (show u = Value.none from rx); exact PySem.W.kia_one PySem.W.kitx_none I.kIn True.intro e (fun z => nomatch z) h
 | bl y => cases (show u = Value.bool y from rx); exact PySem.W.kia_one PySem.W.kitx_bool I.kIn True.intro e (fun z => nomatch z) h
 | int i => obtain ⟨t, q⟩ := (show ∃ t, u = Value.int i t from rx); cases q; exact PySem.W.kia_one PySem.W.kitx_int I.kIn True.intro e (fun z => nomatch z) h
 | str y => obtain ⟨t, q⟩ := (show ∃ t, u = Value.str y t from rx); cases q; exact PySem.W.kia_one PySem.W.kitx_str I.kIn True.intro e (fun z => nomatch z) h
 | flt y => obtain ⟨t, q⟩ := (show ∃ t, u = Value.float y t from rx); cases q; exact PySem.W.kia_one PySem.W.kitx_float I.kIn True.intro e (fun z => nomatch z) h
 | @lst a xs ea =>
  cases (show u = Value.ref a from rx)
  obtain ⟨_, _, n, _, h1⟩ := (show BU X.prog X.w H s.heap a (.lst xs) from I.hok a _ ea)
  exact PySem.W.kia_one PySem.W.kitx_list I.kIn ⟨_, h1, rfl⟩ e (fun z => nomatch z) h
 | @frz a ob xs ea =>
  cases (show u = Value.ref a from rx)
  obtain ⟨_, _, _, n, _, h1⟩ := (show BU X.prog X.w H s.heap a (.frz ob (.lst xs)) from I.hok a _ ea)
  exact PySem.W.kia_one PySem.W.kitx_list I.kIn ⟨_, h1, rfl⟩ e (fun z => nomatch z) h
 | @tup a xs ea =>
  cases (show u = Value.ref a from rx)
  obtain ⟨_, _, _, p⟩ := (show BU X.prog X.w H s.heap a (.tup xs) from I.hok a _ ea)
  obtain ⟨o, h1, h2, _⟩ := p
  exact PySem.W.kia_one PySem.W.kitx_tuple I.kIn ⟨o, h1, h2⟩ e (fun z => nomatch z) h
 | @dK a kvs ea =>
  cases (show u = Value.ref a from rx)
  obtain ⟨_, _, vs, _, p⟩ := (show BU X.prog X.w H s.heap a (.dK kvs) from I.hok a _ ea)
  obtain ⟨o, es, ep, h1, h2, _⟩ := p
  exact PySem.W.kia_one PySem.W.kitx_dict I.kIn ⟨o, h1, h2.1⟩ e (fun z => nomatch z) h
 | @dT a kvs ea =>
  cases (show u = Value.ref a from rx)
  obtain ⟨_, _, xs, _, o, es, ep, h1, h2, _⟩ := (show BU X.prog X.w H s.heap a (.dT kvs) from I.hok a _ ea)
  exact PySem.W.kia_one PySem.W.kitx_dict I.kIn ⟨o, h1, h2.1⟩ e (fun z => nomatch z) h
 | @ins a C dx fs ea cl ha hn htk hm =>
  cases (show u = Value.ref a from rx)
  obtain ⟨mA, O, _⟩ := NY I.hok ea
  obtain ⟨od, J, _⟩ := O.look
  exact PySem.W.kia_one (PySem.W.kitx_own (cl.get _) cl.hd ha hn htk hm) I.kIn J e (fun z => nomatch z) h
end
structure CJ (k : Nat) (A : Around) : Prop where
 hd : A.handled = none
 dp : A.depth + 3 * k + 5 < recursionLimit
 un : A.units + 16 * k + 200 < cLine
theorem CJ.mono {j k : Nat} {A : Around} (r : CJ k A) (h : j ≤ k) : CJ j A := ⟨r.hd, by have := r.dp; lia, by have := r.un; lia⟩
theorem CJ.deeper {k : Nat} {A : Around} (r : CJ (k + 1) A) (env : Env) : CJ k (A.deeper env) :=
 ⟨r.hd, by have := r.dp; show A.depth + 1 + 3 * k + 5 < _; lia, by have := r.un; show A.units + 3 + 16 * k + 200 < _; lia⟩
theorem TC {A : Around} {C : Addr} {us : List Value} {kw : List (Str × Value)} : (A.under (.builtin "type.__call__" ⟨.ref C :: us, kw⟩)).depth = A.depth + 1 := by
 first | rfl | simp [Around.under, Code.weight, Code.isCreation, Code.isGuard, Code.isCaller, Code.frames, Code.isFrame, guardIds]
theorem Tp {A : Around} {C : Addr} {us : List Value} {kw : List (Str × Value)} : (A.under (.builtin "type.__call__" ⟨.ref C :: us, kw⟩)).units = A.units + 1 := by
 first | rfl | simp [Around.under, Code.cUnits, Code.frames, Code.isFrame]
theorem CJ.make {k : Nat} {A : Around} (r : CJ (k + 1) A) (C : Addr) (us : List Value) (kw : List (Str × Value)) : CJ k (A.under (.builtin "type.__call__" ⟨.ref C :: us, kw⟩)) :=
 ⟨r.hd, by have := r.dp; rw [TC]; lia, by have := r.un; rw [Tp]; lia⟩
theorem CJ.depth {k : Nat} {A : Around} (r : CJ k A) : A.depth < recursionLimit := by have := r.dp; lia
theorem CJ.units {k : Nat} {A : Around} (r : CJ k A) : A.units + 64 < cLine := by have := r.un; lia
noncomputable def KC : TA := fun _ H Q => Q [] H
noncomputable def GZ (ta : TE) (tr : TA) : TA := fun σ H Q => ta σ H fun x H1 => tr σ H1 fun xs H2 => Q (x :: xs) H2
section
variable {X : Cx} {e : Expr} {es : List Expr} {te : TE} {t : TA} {pos : Pos}
theorem AC : PA X [] KC := fun _ _ _ _ H Q I h => Calls.spliced_nil ⟨[], H, I, .nil, h⟩
theorem AA (ha : PE X e te) (hr : PA X es t) (hs : starEach (e :: es) X.env = (false, eval e X.env) :: starEach es X.env := by rfl) : PA X (e :: es) (GZ te t) := by
 intro pos pins s σ H Q I h
 rw [hs]
 show wpAny _ _ (spliced ((false, eval e X.env) :: backTo pos (starEach es X.env))) _ _ s
 refine Calls.spliced_cons (thn (ha pins s σ H _ I h) fun u s1 zq => ?_)
 obtain ⟨x, H1, I1, r1, q1⟩ := zq
 exact thn (hr pos pins s1 σ H1 _ I1 q1) fun us s2 ⟨xs, H2, I2, r2, q2⟩ => ⟨x :: xs, H2, I2, .cons r1 r2, q2⟩
end
noncomputable abbrev Sp := List V → Hp → VK → XK → Prop
noncomputable abbrev CXT := List Env → Hp → Shared → XK → Value → Shared → Prop
structure Tc (P : Program) (w : World) (K : PySem.W.Frag) (mg : Str → Option Value) (base : Heap) (A : Around) (outer : List Env) (s : Shared) (H : Hp) : Prop where
 frames : A.frames = some outer
 mod : Mod K mg base
 bs : ∀ b o, base.get? b = some o → s.heap.get? b = some o ∧ H b = none
 bsz : base.objs.size ≤ s.heap.objs.size
 funs : s.heap.FunFrames base outer
 frf : ∀ b ∈ frs outer, H b = none
 hok : HOk P w H s.heap
 bare : AllBare s.gens
noncomputable def CE (outer : List Env) (P : Program) (w : World) (H : Hp) (s : Shared) (Q : VK) (u : Value) (s' : Shared) : Prop :=
 ∃ v H', s'.os = s.os ∧ AllBare s'.gens ∧ Un (frs outer) [] H H' s.heap s'.heap ∧ HOk P w H' s'.heap ∧ RelV v u ∧ Q v H'
noncomputable def CR (CX : CXT) (outer : List Env) (P : Program) (w : World) (H : Hp) (s : Shared) (Q : VK) (E : XK) (r : Result) (s' : Shared) : Prop :=
 match r with
 | .ok (.ret u) => CE outer P w H s Q u s'
 | .ok _ => False
 | .error e => CX outer H s E e s'
structure Ao (P : Program) (w : World) (K : PySem.W.Frag) (mg : Str → Option Value) (base : Heap) (CX : CXT) (k : Nat) (f : Addr) (fd : FuncData) (ps : List Str) (sp : Sp) : Prop where
 len : ∀ vs H Q E, sp vs H Q E → vs.length = ps.length
 run : ∀ (A : Around) (outer : List Env) (s : Shared) (H : Hp) (args : Args) (us : List Value) (vs : List V) (Q : VK) (E : XK), CJ k A → Tc P w K mg base A outer s H → BindsTo s fd args (ps.zip us) → As vs us → sp vs H Q E →
  codeAny (model P w) A (.call (.ref f) args) (CR CX outer P w H s Q E) s
theorem Tc.make {P : Program} {w : World} {K : PySem.W.Frag} {mg : Str → Option Value} {base : Heap} {A : Around} {outer : List Env} {s : Shared} {H : Hp} (e : Tc P w K mg base A outer s H) (C : Addr) (us : List Value) (kw : List (Str × Value)) :
  Tc P w K mg base (A.under (.builtin "type.__call__" ⟨.ref C :: us, kw⟩)) outer s H := ⟨by first | exact e.frames | (simpa [Around.under, Code.envs, Code.isFrame, pushEnvs] using e.frames), e.mod, e.bs, e.bsz, e.funs, e.frf, e.hok, e.bare⟩
section
variable {X : Cx} {pins : List (Addr × Obj)} {σ : St} {H : Hp} {s s' : Shared}
theorem Inv.env0 (I : Inv X pins σ H s) : Tc X.prog X.w X.K X.mg X.base X.A X.stack s H :=
 ⟨I.ok.frames, I.ok.mod, I.bs, Nat.le_trans I.ok.bsz I.sz, I.stack, I.stkFree, I.hok, I.bare⟩
theorem Inv.after {Q : VK} {u : Value} (I : Inv X pins σ H s) (h : CE X.stack X.prog X.w H s Q u s') : EP X pins σ Q u s' := by
 obtain ⟨v, H', os, bare, un, hok, r, q⟩ := h
 obtain ⟨hh, g, d, t, os'⟩ := s'
 obtain rfl : os' = s.os := os
 exact ⟨v, H', I.call (h' := hh) (g' := g) (d' := d) (t' := t) (ch := []) un hok bare (fun b z => absurd z (by simp)), r, q⟩
end
noncomputable def HM (sp : Sp) (dvs : List V) (E : XK) (t : TA) : TE := fun σ H Q => t σ H fun vs H1 => sp (vs ++ dvs) H1 Q E
noncomputable def IQ (C : Addr) (m : Str) (sp : Sp) (dvs : List V) (E : XK) (ta : TE) (t : TA) : TE := fun σ H Q => ta σ H fun x H1 => ∃ a dx fs, x = .ref a ∧ H1 a = some (.ins C dx fs) ∧ fs.lookup m = none ∧
 t σ H1 fun vs H2 => sp (x :: (vs ++ dvs)) H2 Q E
noncomputable def HW (C : Addr) (sp : Sp) (dvs : List V) (E : XK) (t : TA) : TE := fun σ H Q => t σ H fun vs H1 => ∀ x dx, H1 x = none → H1 dx = none → dx ≠ x →
 sp (.ref x :: (vs ++ dvs)) (upd (upd H1 dx (.own x)) x (.ins C dx [])) (fun v H2 => v = .non ∧ Q (.ref x) H2) E
noncomputable def Binds (K : PySem.W.Frag) (fd : FuncData) (ps : List Str) (ds : List Value) : Prop :=
 ∀ (s : Shared) (us : List Value), K.In s.heap → (us ++ ds).length = ps.length → BindsTo s fd ⟨us, []⟩ (ps.zip (us ++ ds))
theorem Binds.all {K : PySem.W.Frag} {fd : FuncData} {ps : List Str} (h : ∀ us : List Value, us.length = ps.length → bindArgs fd ⟨us, []⟩ = pure (ps.zip us)) : Binds K fd ps [] := fun s us _ hl => by
 rw [List.append_nil] at hl ⊢
 exact .of_eq (h us hl)
noncomputable def En (CX : CXT) (X : Cx) (E : XK) : Prop := ∀ (pins : List (Addr × Obj)) (σ : St) (H : Hp) (s : Shared) (e : Value) (s' : Shared), Inv X pins σ H s → CX X.stack H s E e s' → X.xe e s'
section
variable {X : Cx} {CX : CXT} {k : Nat} {f C : Addr} {fd : FuncData} {ps : List Str} {sp : Sp} {dvs : List V} {ds : List Value} {E : XK} {x m : Str} {p pos apos : Pos} {e o : Expr} {es : List Expr} {ta : TE} {t : TA}
theorem Tj {pins : List (Addr × Obj)} {σ : St} {H : Hp} {s : Shared} {Q : VK} {us : List Value} {vs : List V} (F : Ao X.prog X.w X.K X.mg X.base CX k f fd ps sp) (hr : CJ k X.A) (hb : Binds X.K fd ps ds) (hd : As dvs ds) (hx : En CX X E)
  (I : Inv X pins σ H s) (r : As vs us) (h : sp (vs ++ dvs) H Q E) : wpAny (model X.prog X.w) X.A (call (.ref f) us) (EP X pins σ Q) X.xe s := by
 have r2 : As (vs ++ dvs) (us ++ ds) := r.append hd
 have hl : (us ++ ds).length = ps.length := by rw [← r2.length]; exact F.len _ _ _ _ h
 refine wpAny_call (codeAny_mono (F.run X.A X.stack s H ⟨us, []⟩ (us ++ ds) (vs ++ dvs) Q E hr I.env0 (hb s us I.kIn hl) r2 h) fun r s' hq => ?_)
 cases r with
 | error e => exact hx pins σ H s e s' I hq
 | ok fl =>
  cases fl with
  | ret u => exact I.after hq
  | next => exact False.elim hq
  | brk => exact False.elim hq
  | cont => exact False.elim hq
theorem W4 (F : Ao X.prog X.w X.K X.mg X.base CX k f fd ps sp) (hr : CJ k X.A) (hg : Gl X x) (hm : X.mg x = some (.ref f)) (hk : PySem.W.keepIn X.K (.ref f) = true) (hb : Binds X.K fd ps ds) (hd : As dvs ds) (hx : En CX X E)
  (ha : PA X (e :: es) t) (hdb : (x == ("__debug__" : Str)) = false := by decide) (he : starEach (e :: es) X.env = (false, eval e X.env) :: starEach es X.env := by rfl) (hpl : (backTo pos (starEach es X.env)).any (·.1) = false := by rfl) :
  PE X (.Call (.Name x p) (e :: es) [] pos) (HM sp dvs E t) := by
 intro pins s σ H Q I h
 refine wpAny_Call_Name_kw (K6 I hg hm ?_ hdb)
 refine PySem.W.callWith_K (h₀ := X.base) I.ok.mod.kin hk (thn (ha pos pins s σ H _ I h) fun us s1 ⟨vs, H1, I1, r, q⟩ => ⟨I1.kIn, ?_⟩) he hpl
 exact Tj F hr hb hd hx I1 r q
theorem BX {pl : Sem Bool} (he : PE X o ta) (c : Cls X.K C) (hm : Ts X.K C m f) (F : Ao X.prog X.w X.K X.mg X.base CX k f fd ps sp) (hr : CJ k X.A) (hb : Binds X.K fd ps ds) (hd : As dvs ds) (hx : En CX X E) (ha : PA X (e :: es) t)
  (hst : starEach (e :: es) X.env = (false, eval e X.env) :: starEach es X.env := by rfl) (hpl : (backTo pos (starEach es X.env)).any (·.1) = false := by rfl)
  (ht : eval (.Call (.Attribute o m apos) (e :: es) [] pos) X.env = (do
   let ov ← eval o X.env
   standAt apos.atName
   let (f, first) ← holding [ov] (getMethod ov m pl)
   callWith pos f first (backTo pos (starEach (e :: es) X.env)) (backToKw pos (keywordEach [] X.env))) := by rfl) :
  PE X (.Call (.Attribute o m apos) (e :: es) [] pos) (IQ C m sp dvs E ta t) := by
 intro pins s σ H Q I h
 refine PySem.W.methodCall_KW (pl := pl) (thn (he pins s σ H _ I h) fun u s1 ⟨x, H1, I1, rx, a, dx, fs, ex, ea, l, q⟩ => ?_) ht
 subst ex
 obtain rfl : u = Value.ref a := rx
 refine GN I1 ea c hm l ?_
 refine PySem.W.callWith_K (first := [.ref a]) (h₀ := X.base) I.ok.mod.kin hm.kp (thn (ha pos pins s1 σ H1 _ I1 q) fun us s2 ⟨vs, H2, I2, r, q2⟩ => ⟨I2.kIn, ?_⟩) hst hpl
 exact Tj (us := .ref a :: us) (vs := .ref a :: vs) F hr hb hd hx I2 (.cons rfl r) q2
theorem Re {pl : Sem Bool} (he : PE X o ta) (c : Cls X.K C) (hm : Ts X.K C m f) (F : Ao X.prog X.w X.K X.mg X.base CX k f fd ps sp) (hr : CJ k X.A) (hb : Binds X.K fd ps ds) (hd : As dvs ds) (hx : En CX X E)
  (ht : eval (.Call (.Attribute o m apos) [] [] pos) X.env = (do
   let ov ← eval o X.env
   standAt apos.atName
   let (f, first) ← holding [ov] (getMethod ov m pl)
   callWith pos f first (backTo pos (starEach [] X.env)) (backToKw pos (keywordEach [] X.env))) := by rfl) :
  PE X (.Call (.Attribute o m apos) [] [] pos) (IQ C m sp dvs E ta KC) := by
 intro pins s σ H Q I h
 refine PySem.W.methodCall_KW (pl := pl) (thn (he pins s σ H _ I h) fun u s1 ⟨x, H1, I1, rx, a, dx, fs, ex, ea, l, q⟩ => ?_) ht
 subst ex
 obtain rfl : u = Value.ref a := rx
 refine GN I1 ea c hm l ?_
 exact PySem.W.callWith_K0 (first := [.ref a]) I1.kIn hm.kp (Tj (us := [.ref a]) (vs := [.ref a]) F hr hb hd hx I1 (.cons rfl .nil) q)
structure Mk (K : PySem.W.Frag) (C f : Addr) : Prop where
 makes : PySem.W.makesIn K C = true
 init : PySem.W.findIn K (.ref C) "__init__" = some (some (.ref f))
 fn : PySem.W.isFn K (.ref f) = true
 kp : PySem.W.keepIn K (.ref C) = true
theorem V7 {pins : List (Addr × Obj)} {σ : St} {H : Hp} {s : Shared} {Q : VK} {us : List Value} {vs : List V} (M : Mk X.K C f) (F : Ao X.prog X.w X.K X.mg X.base CX k f fd ps sp) (hr : CJ (k + 1) X.A) (hb : Binds X.K fd ps ds) (hd : As dvs ds)
  (hx : En CX X E) (I : Inv X pins σ H s) (r : As vs us)
  (h : ∀ x dx, H x = none → H dx = none → dx ≠ x → sp (.ref x :: (vs ++ dvs)) (upd (upd H dx (.own x)) x (.ins C dx [])) (fun v H2 => v = .non ∧ Q (.ref x) H2) E) :
  wpAny (model X.prog X.w) X.A (call (.ref C) us) (EP X pins σ Q) X.xe s := by
 have hq := h (s.heap.objs.size + 1) s.heap.objs.size (I.hok.fresh (Nat.le_succ _)) (I.hok.fresh (Nat.le_refl _)) (Nat.ne_of_lt (Nat.lt_succ_self _))
 have I2 := Inv.made (C := C) I
 have r2 : As (V.ref (s.heap.objs.size + 1) :: (vs ++ dvs)) (Value.ref (s.heap.objs.size + 1) :: (us ++ ds)) := .cons rfl (r.append hd)
 have hl : (Value.ref (s.heap.objs.size + 1) :: us ++ ds).length = ps.length := by
  have e := r2.length
  rw [F.len _ _ _ _ hq] at e
  exact e.symm
 refine wpAny_call (Vu (f := f) I.kIn M.makes M.init (beq_iff_eq.mp M.fn) (codeAny_mono (F.run _ X.stack _ _ ⟨Value.ref (s.heap.objs.size + 1) :: us, []⟩ (Value.ref (s.heap.objs.size + 1) :: (us ++ ds)) _ _ E (hr.make C us [])
  (I2.env0.make C us []) (hb _ (Value.ref (s.heap.objs.size + 1) :: us) I2.kIn hl) r2 hq) fun r s' hq' => ?_))
 cases r with
 | error e => exact hx pins σ _ _ e s' I2 hq'
 | ok fl =>
  cases fl with
  | ret u =>
   obtain ⟨v, H', I3, rv, ev, q3⟩ := I2.after hq'
   subst ev
   exact ⟨rv, ⟨V.ref (s.heap.objs.size + 1), H', I3, rfl, q3⟩⟩
  | next => exact False.elim hq'
  | brk => exact False.elim hq'
  | cont => exact False.elim hq'
theorem Vj (M : Mk X.K C f) (F : Ao X.prog X.w X.K X.mg X.base CX k f fd ps sp) (hr : CJ (k + 1) X.A) (hg : Gl X x) (hm : X.mg x = some (.ref C)) (hb : Binds X.K fd ps ds) (hd : As dvs ds) (hx : En CX X E)
  (hdb : (x == ("__debug__" : Str)) = false := by decide) : PE X (.Call (.Name x p) [] [] pos) (HW C sp dvs E KC) := by
 intro pins s σ H Q I h
 refine wpAny_Call_Name_kw (K6 I hg hm ?_ hdb)
 exact PySem.W.callWith_K0 I.kIn M.kp (V7 (us := []) M F hr hb hd hx I .nil h)
end
section
variable {X : Cx} {CX : CXT} {k : Nat} {f C : Addr} {fd : FuncData} {ps ks : List Str} {sp : Sp} {E : XK} {x m : Str} {p pos apos kpos : Pos} {e o : Expr} {es : List Expr} {kws : List Keyword} {te ta : TE} {t tk : TA} {nm : Option Str}
variable {g : List Value → List Value → List Value} {gV : List V → List V → List V}
end
structure AO (N P : List Str) (sc : Scope) : Prop where
 kind : sc.kind = .function
 co : sc.isCoroutine = false
 gen : sc.isGenerator = false
 nd : N.Nodup
 pre : N.take P.length = P
 par : ∀ x ∈ P, sc.names.lookup x = some .local ∨ sc.names.lookup x = some .cell
 nofree : ∀ y ∈ sc.names, y.2 ≠ .free
theorem QZ {kindOf : Str → Option NameKind} {x : Str} : ∀ {binds : List (Str × Value)} {m : Str → Option Value}, (∀ v, (x, v) ∉ binds) → bindL kindOf binds m x = m x
 | [], _, _ => rfl
 | (n, v) :: r, m, h => by
  unfold bindL
  rw [QZ fun w hw => h w (List.mem_cons_of_mem _ hw)]
  split
  ·have : x ≠ n := by rintro rfl; exact h v List.mem_cons_self
   simp [this]
  ·rfl
theorem QI {kindOf : Str → Option NameKind} {x : Str} : ∀ {binds : List (Str × Value)} {m : Str → Option Value}, (∀ v, (x, v) ∉ binds) → bindC kindOf binds m x = m x
 | [], _, _ => rfl
 | (n, v) :: r, m, h => by
  unfold bindC
  rw [QI fun w hw => h w (List.mem_cons_of_mem _ hw)]
  split
  ·rfl
  ·have : x ≠ n := by rintro rfl; exact h v List.mem_cons_self
   simp [this]
theorem QM {kindOf : Str → Option NameKind} {x : Str} {v : Value} : ∀ {P : List Str} {vs : List Value} {i : Nat} {m : Str → Option Value}, P.Nodup → P[i]? = some x → vs[i]? = some v → kindOf x = some .local →
  bindL kindOf (P.zip vs) m x = some v
 | [], _, _, _, _, h, _, _ => by simp at h
 | _ :: _, [], _, _, _, _, h, _ => by simp at h
 | p :: P, w :: vs, 0, m, nd, h1, h2, hk => by
  simp at h1 h2; subst h1; subst h2
  show bindL kindOf ((p, w) :: P.zip vs) m p = _
  unfold bindL
  rw [QZ fun v hv => (List.nodup_cons.mp nd).1 (List.of_mem_zip hv).1, if_pos hk]
  simp
 | p :: P, w :: vs, i + 1, m, nd, h1, h2, hk => by
  show bindL kindOf ((p, w) :: P.zip vs) m x = _
  unfold bindL
  exact QM (i := i) (List.nodup_cons.mp nd).2 (by simpa using h1) (by simpa using h2) hk
theorem Qa {kindOf : Str → Option NameKind} {x : Str} {v : Value} : ∀ {P : List Str} {vs : List Value} {i : Nat} {m : Str → Option Value}, P.Nodup → P[i]? = some x → vs[i]? = some v → kindOf x ≠ some .local →
  bindC kindOf (P.zip vs) m x = some v
 | [], _, _, _, _, h, _, _ => by simp at h
 | _ :: _, [], _, _, _, _, h, _ => by simp at h
 | p :: P, w :: vs, 0, m, nd, h1, h2, hk => by
  simp at h1 h2; subst h1; subst h2
  show bindC kindOf ((p, w) :: P.zip vs) m p = _
  unfold bindC
  rw [QI fun v hv => (List.nodup_cons.mp nd).1 (List.of_mem_zip hv).1, if_neg hk]
  simp
 | p :: P, w :: vs, i + 1, m, nd, h1, h2, hk => by
  show bindC kindOf ((p, w) :: P.zip vs) m x = _
  unfold bindC
  exact Qa (i := i) (List.nodup_cons.mp nd).2 (by simpa using h1) (by simpa using h2) hk
noncomputable def start (N : List Str) (vs : List V) : St := vs.map some ++ List.replicate (N.length - vs.length) none
noncomputable def Fd (CX : CXT) (P : Program) (w : World) (K : PySem.W.Frag) (mg : Str → Option Value) (base : Heap) (N : List Str) (qual : Str) (scope : Scope) (f : Addr) (cd : Value) (A : Around) (outer : List Env) (s : Shared) (H : Hp) (E : XK) : Cx where
 prog := P
 w := w
 K := K
 mg := mg
 base := base
 A := A.deeper (envOfC qual scope s.heap.objs.size f cd)
 N := N
 s₀ := s
 H₀ := H
 env := envOfC qual scope s.heap.objs.size f cd
 outer := outer
 stack := envOfC qual scope s.heap.objs.size f cd :: outer
 ex := []
 calm := true
 fn := fun _ => true
 pn := []
 xe := fun e s' => wpAny (model P w) (A.deeper (envOfC qual scope s.heap.objs.size f cd)) (leaving (envOfC qual scope s.heap.objs.size f cd) e) (fun _ s'' => CX outer H s E e s'') (fun e' s'' => CX outer H s E e' s'') s'
theorem SE {sc : Scope} {n : Nat} {x : Str} (h : sc.names.lookup x = some .cell) : ∃ c, (cellsFrom n sc.names []).lookup x = some c := by
 have q := PySem.W.cellsFrom_some sc.names n [] (.inl h)
 exact Option.isSome_iff_exists.mp q
theorem VF {CX : CXT} {P : Program} {w : World} {K : PySem.W.Frag} {mg : Str → Option Value} {base : Heap} {N ps : List Str} {qual : Str} {scope : Scope} {f : Addr} {cd : Value} {A : Around} {outer : List Env} {s s1 : Shared} {H : Hp} {E : XK} {us : List Value} {vs : List V}
  (S : AO N ps scope) (hd : A.handled = none) (e0 : Tc P w K mg base A outer s H) (hl : vs.length = ps.length) (r : As vs us)
  (x : InCallC s s.heap.objs.size (bindL (envOfC qual scope s.heap.objs.size f cd).kindOf (ps.zip us) fun _ => none) (cellsFrom (s.heap.objs.size + 1) scope.names []) (bindC (envOfC qual scope s.heap.objs.size f cd).kindOf (ps.zip us) fun _ => none) s1) :
  Inv (Fd CX P w K mg base N qual scope f cd A outer s H E) [] (start N vs) H s1 := by
 have hpl : ps.length ≤ N.length := by have := congrArg List.length S.pre; rw [List.length_take] at this; lia
 obtain ⟨h1, tk, rfl, hk⟩ := x.done
 have noA : ∀ b : Addr, b ∉ (Fd CX P w K mg base N qual scope f cd A outer s H E).ex := fun b z => absurd (show b ∈ ([] : List Addr) from z) (by simp)
 refine ⟨⟨e0.mod, S.kind, rfl, rfl, Nat.le_refl _, fun y z c h1 h2 => ?_, fun y hy => ?_, fun y c _ h => ?_, fun _ => hd, Around.frames_deeper e0.frames, .inr ⟨rfl, rfl⟩, fun b z => absurd z (noA b), e0.bs, e0.bsz, fun b _ _ => noA b, fun b z => absurd z (noA b), e0.funs, e0.frf⟩,
  rfl, e0.bare, Un.kept hk, ⟨_, x.toInCall.ns, fun i y v h1 h2 h3 => ?_⟩, fun y c h => ⟨_, x.cell y c h⟩, e0.hok.fresh (Nat.le_refl _), fun y c h => ?_, fun p hp => absurd (show p ∈ ([] : List (Addr × Obj)) from hp) (by simp), e0.hok.kept hk, ?_⟩
 ·exact name_of_addr x.apart (PySem.mem_of_lookup h1) (PySem.mem_of_lookup h2)
 ·have hy : scope.names.lookup y = some .cell ∨ scope.names.lookup y = some .free := hy
  rcases hy with hy | hy
  ·exact SE hy
  ·exact absurd rfl (S.nofree _ (PySem.mem_of_lookup hy))
 ·exact Nat.le_of_lt (x.above y c (PySem.mem_of_lookup h))
 ·have hi : i < vs.length := by
   unfold start at h2
   by_cases hi : i < vs.length
   ·exact hi
   ·rw [List.getElem?_append_right (by simpa using hi)] at h2
    rw [List.getElem?_replicate] at h2
    split at h2 <;> cases h2
  have ha : vs[i]? = some v := by
   unfold start at h2
   rw [List.getElem?_append_left (by simpa using hi), List.getElem?_map] at h2
   cases e : vs[i]? with
   | none => rw [e] at h2; cases h2
   | some a => rw [e] at h2; cases h2; rfl
  obtain ⟨u, hu, rv⟩ := r.get ha
  have hp : ps[i]? = some y := by
   rw [← S.pre, List.getElem?_take_of_lt (by lia)]; exact h1
  have ndP : ps.Nodup := by rw [← S.pre]; exact S.nd.sublist (List.take_sublist _ _)
  refine ⟨u, rv, ?_⟩
  rcases S.par y (List.mem_of_getElem? hp) with k | k
  ·exact .inl ⟨k, QM ndP hp hu k⟩
  ·obtain ⟨c, e⟩ := SE (n := s.heap.objs.size + 1) k
   refine .inr ⟨.inl k, c, e, ?_⟩
   have q := x.cell y c e
   rw [Qa ndP hp hu (by show scope.names.lookup y ≠ _; rw [k]; decide)] at q
   exact q
 ·exact e0.hok.fresh (Nat.le_of_lt (x.above y c (PySem.mem_of_lookup h)))
 ·unfold start
  show _ = N.length
  rw [List.length_append, List.length_map, List.length_replicate]
  lia
theorem UE {CX : CXT} {P : Program} {w : World} {K : PySem.W.Frag} {mg : Str → Option Value} {base : Heap} {k : Nat} {f : Addr} {name qual : Str} {params : Arguments} {body : List Stmt} {scope : Scope} {dV kV doc pm cdv ct oc : Value} {an od : Option Addr}
  {osl : Array (Option Value)} {N ps : List Str} {sp : Sp} (lk : K.lookup f = some ⟨oc, od, .func (PySem.W.fnOf name qual params body scope dV kV doc pm an cdv ct), osl⟩) (hcd : PySem.W.codeIn K cdv qual = true) (S : AO N ps scope)
  (len : ∀ vs H Q E, sp vs H Q E → vs.length = ps.length)
  (hbody : ∀ (A : Around) (outer : List Env) (s : Shared) (H : Hp) (vs : List V) (Q : VK) (E : XK), CJ k (A.deeper (envOfC qual scope s.heap.objs.size f cdv)) → sp vs H Q E →
   ∃ t, PSs (Fd CX P w K mg base N qual scope f cdv A outer s H E) body t ∧ t { nx := fun _ H' => Q .non H', rt := Q } (start N vs) H) :
  Ao P w K mg base CX (k + 1) f (PySem.W.fnOf name qual params body scope dV kV doc pm an cdv ct) ps sp := by
 refine ⟨len, fun A outer s H args us vs Q E hr e0 hb r hsp => ?_⟩
 have hl := len _ _ _ _ hsp
 have KX : K.In s.heap := e0.mod.kin.keeps fun b o e => (e0.bs b o e).1
 have lim : s.heap.NoLimit := e0.mod.nolimit.keeps fun b o e => (e0.bs b o e).1
 have hkind : ∀ y ∈ ps.zip us, scope.names.lookup y.1 = some .local ∨ (scope.names.lookup y.1 = some .cell ∧ ((cellsFrom (s.heap.objs.size + 1) scope.names []).lookup y.1).isSome = true) := fun ⟨n, v⟩ hy => by
  rcases S.par n (List.of_mem_zip hy).1 with q | q
  ·exact .inl q
  ·exact .inr ⟨q, PySem.W.cellsFrom_some _ _ _ (.inl q)⟩
 refine codeAny_call_function hr.depth (KX _ _ lk) rfl S.co S.gen rfl (PySem.W.codeRec_of KX hcd) (hb _ _ _ _ ?_)
 refine wpAny_newFunctionEnv_cells S.kind hkind fun env he s1 x => ?_
 subst he
 refine ⟨lim.keeps x.toInCall.keep, codeAny_func ?_⟩
 obtain ⟨t, ht, hq⟩ := hbody A outer s H vs Q E (hr.deeper _) hsp
 have I : Inv (Fd CX P w K mg base N qual scope f cdv A outer s H E) [] (start N vs) H s1 := VF S hr.hd e0 hl r x
 refine wpAny_mono (ht [] s1 (start N vs) H _ I hq) (fun fl s' hs => ?_) fun e s' hs => hs
 have fin : ∀ {σ' : St} {H' : Hp} {v : V} {u : Value}, Inv (Fd CX P w K mg base N qual scope f cdv A outer s H E) [] σ' H' s' → RelV v u → Q v H' → CE outer P w H s Q u s' :=
  fun {σ' H' v u} J rv q => ⟨v, H', J.os, J.bare, J.base, J.hok, rv, q⟩
 cases fl with
 | ret u =>
  obtain ⟨v, σ', H', J, rv, q⟩ := hs
  exact fin J rv q
 | next =>
  obtain ⟨σ', H', J, q⟩ := hs
  exact fin (v := V.non) (u := Value.none) J rfl q
 | brk =>
  obtain ⟨_, _, _, q⟩ := hs
  exact False.elim q
 | cont =>
  obtain ⟨_, _, _, q⟩ := hs
  exact False.elim q
section
variable {X : Cx} {x : Str} {p pos : Pos} {e : Expr} {es : List Expr} {t : TA} {id T : String} {r : List V → Hp → VK → Prop}
noncomputable def tCB (r : List V → Hp → VK → Prop) (t : TA) : TE := fun σ H Q => t σ H fun vs H1 => r vs H1 Q
theorem AJ (hc : B1 X (.builtin id) r) (hg : Gl X x) (hm : X.mg x = none) (hv : bootBuiltins x = some (.builtin id)) (ha : PA X (e :: es) t) (hn : x ≠ "__name__" := by decide) (hdb : (x == ("__debug__" : Str)) = false := by decide)
  (he : starEach (e :: es) X.env = (false, eval e X.env) :: starEach es X.env := by rfl) (hpl : (backTo pos (starEach es X.env)).any (·.1) = false := by rfl) : PE X (.Call (.Name x p) (e :: es) [] pos) (tCB r t) := by
 intro pins s σ H Q I h
 refine wpAny_Call_Name_kw (KB I hg hm hv ?_ hn hdb)
 exact PyProof.Rows.callWith_builtin1 (thn (ha pos pins s σ H _ I h) fun us s1 ⟨vs, H1, I1, r1, q1⟩ => hc pins s1 σ H1 vs us Q I1 r1 q1) he hpl
theorem Bs (hc : B1 X (.type T) r) (hg : Gl X x) (hm : X.mg x = none) (hv : bootBuiltins x = some (.type T)) (ha : PA X (e :: es) t) (hn : x ≠ "__name__" := by decide) (hdb : (x == ("__debug__" : Str)) = false := by decide)
  (he : starEach (e :: es) X.env = (false, eval e X.env) :: starEach es X.env := by rfl) (hpl : (backTo pos (starEach es X.env)).any (·.1) = false := by rfl) : PE X (.Call (.Name x p) (e :: es) [] pos) (tCB r t) := by
 intro pins s σ H Q I h
 refine wpAny_Call_Name_kw (KB I hg hm hv ?_ hn hdb)
 exact PyProof.Rows.callWith_type1 (thn (ha pos pins s σ H _ I h) fun us s1 ⟨vs, H1, I1, r1, q1⟩ => hc pins s1 σ H1 vs us Q I1 r1 q1) he hpl
end
end L2
namespace HT
open PySem PyProof.Rows
noncomputable def lexLt : List Int → List Int → Bool
 | [], [] => false
 | [], _ :: _ => true
 | _ :: _, [] => false
 | x :: xs, y :: ys => if x = y then lexLt xs ys else decide (x < y)
theorem lexLt_cons (x y : Int) (xs ys : List Int) : lexLt (x :: xs) (y :: ys) = if x = y then lexLt xs ys else decide (x < y) := rfl
section
open PySem.SeqAt
open PySem.AutoSeq1 (wpAny_loadPart')
open PySem.MeetsSeq PySem.MeetsSeq2 PySem.MeetsSeq3
end
section
variable {prog : Program} {w : World} {A : Around} {E : Value → Shared → Prop} {s : Shared}
noncomputable def sIx (n d : Nat) : Option Int → Nat
 | none => d
 | some v => if v < 0 then (v + (n : Int)).toNat else min v.toNat n
theorem sIx_none (n d : Nat) : sIx n d none = d := rfl
theorem sIx_nat (n d k : Nat) : sIx n d (some (k : Int)) = min k n := by
 show (if (k : Int) < 0 then ((k : Int) + (n : Int)).toNat else min (k : Int).toNat n) = min k n
 rw [if_neg (by lia), Int.toNat_natCast]
end
end HT
namespace L2
open PySem PySem.Spec PyProof.Rows
noncomputable abbrev TO := St → Hp → (Option Int → Hp → Prop) → Prop
noncomputable def PO (X : Cx) (e : Option Expr) (t : TO) : Prop :=
 ∀ (pins : List (Addr × Obj)) (s : Shared) (σ : St) (H : Hp) (Q : Option Int → Hp → Prop), Inv X pins σ H s → t σ H Q →
  wpAny (model X.prog X.w) X.A (evalPart e X.env) (fun u s' => ∃ o H', Inv X pins σ H' s' ∧ IsPart u o ∧ Q o H') X.xe s
noncomputable def DA : TO := fun _ H Q => Q none H
noncomputable def Jx (t : TE) : TO := fun σ H Q => t σ H fun x H1 => ∃ i, x = .int i ∧ Q (some i) H1
theorem intsAre_of {ns : List Int} : ∀ {us : List Value}, As (ns.map V.int) us → IntsAre us ns := by
 induction ns with
 | nil => intro us r; rw [List.map_nil] at r; cases r; exact .nil
 | cons n ns ih =>
  intro us r
  rw [List.map_cons] at r
  cases r with
  | cons r1 r2 =>
   obtain ⟨t, e⟩ := r1
   subst e
   exact .cons n t (ih r2)
section
variable {X : Cx} {e : Expr} {te : TE} {lo hi : Option Expr} {tl th : TO} {pos p2 : Pos}
theorem IZ : PO X none DA := by
 intro pins s σ H Q I h
 rw [evalPart_none]
 exact wpAny_pure ⟨none, H, I, .none, h⟩
theorem IT (h : PE X e te) : PO X (some e) (Jx te) := by
 intro pins s σ H Q I hw
 rw [evalPart_some]
 refine thn (h pins s σ H _ I hw) fun u s1 zq => ?_
 obtain ⟨x, H1, I1, r1, q1⟩ := zq
 obtain ⟨i, rfl, q⟩ := q1
 obtain ⟨t, rfl⟩ := r1
 exact ⟨some i, H1, I1, .int i t, q⟩
noncomputable def SlR (X : Cx) (r : V → Option Int → Option Int → Hp → VK → Prop) : Prop :=
 ∀ (pins : List (Addr × Obj)) (s : Shared) (σ : St) (H : Hp) (x : V) (v vl vu : Value) (lo hi : Option Int) (sl : Addr) (Q : VK), Inv X pins σ H s → RelV x v → s.heap.IsSliceOf sl vl vu .none → IsPart vl lo → IsPart vu hi → r x lo hi H Q →
  ∃ T id, typeLookup (.type T) "__getitem__" = pure (some (.builtin id)) ∧ s.TypeIs v T ∧ wpAny (model X.prog X.w) X.A (getItem v (.ref sl)) (EP X pins σ Q) X.xe s
noncomputable def tSl (r : V → Option Int → Option Int → Hp → VK → Prop) (te : TE) (tl th : TO) : TE := fun σ H Q => te σ H fun x H1 => tl σ H1 fun l H2 => th σ H2 fun u H3 => r x l u H3 Q
theorem FY {r : V → Option Int → Option Int → Hp → VK → Prop} (hr : SlR X r) (he : PE X e te) (hl : PO X lo tl) (hu : PO X hi th) : PE X (.Subscript e (.Slice lo hi none p2) pos) (tSl r te tl th) := by
 intro pins s σ H Q I h
 refine Subscript_ (thn (he pins s σ H _ I h) fun v s1 zq => ?_)
 obtain ⟨x, H1, I1, r1, q1⟩ := zq
 refine wpAny_Slice (thn (hl pins s1 σ H1 _ I1 q1) fun vl s2 ⟨l, H2, I2, pl, q2⟩ => thn (hu pins s2 σ H2 _ I2 q2) fun vu s3 zq => ?_)
 obtain ⟨u, H3, I3, pu, q3⟩ := zq
 rw [evalPart_none]
 refine wpAny_pure ?_
 have I4 : Inv X pins σ H3 { s3 with heap := s3.heap.push { cls := .type "slice", data := .fields #[vl, vu, .none] } } := I3.kept (t' := s3.toks) fun b ob q => Heap.get?_push_of_some _ q
 obtain ⟨T, id, hT, ht, hg⟩ := hr pins { s3 with heap := s3.heap.push { cls := .type "slice", data := .fields #[vl, vu, .none] } } σ H3 x v vl vu l u s3.heap.objs.size Q I4 r1 (Heap.IsSliceOf.new ..) pl pu q3
 show wpAny (model X.prog X.w) X.A (subscriptTail e (.Slice lo hi none p2) v (.ref s3.heap.objs.size)) (EP X pins σ Q) X.xe { s3 with heap := s3.heap.push { cls := .type "slice", data := .fields #[vl, vu, .none] } }
 exact tail_any (ops := [.ref s3.heap.objs.size, v]) ht hT hg (by with_unfolding_all rfl)
noncomputable def Pl (xs : List V) (lo hi : Option Int) : List V := (xs.drop (HT.sIx xs.length 0 lo)).take (HT.sIx xs.length xs.length hi - HT.sIx xs.length 0 lo)
theorem SB (xs : List V) (lo hi : Option Int) : (Pl xs lo hi).length ≤ xs.length := by
 unfold Pl
 rw [List.length_take, List.length_drop]
 lia
end
noncomputable def ixN (n : Nat) (i : Int) : Option Nat := if 0 ≤ i then (if i < n then some i.toNat else none) else if -(n : Int) ≤ i then some (i + n).toNat else none
noncomputable def atI {α : Type} (xs : List α) (i : Int) : Option α := (ixN xs.length i).bind fun j => xs[j]?
theorem Uc {n : Nat} {i : Int} {j : Nat} (h : ixN n i = some j) : seqIndex? i n = some j ∧ j < n ∧ -(n : Int) ≤ i ∧ i < n := by
 unfold ixN at h
 by_cases h0 : 0 ≤ i
 ·rw [if_pos h0] at h
  by_cases h1 : i < n
  ·rw [if_pos h1] at h
   have e : i.toNat = j := Option.some.inj h
   exact ⟨by rw [seqIndex_of h0 h1, e], by lia, by lia, h1⟩
  ·rw [if_neg h1] at h; cases h
 ·rw [if_neg h0] at h
  by_cases h1 : -(n : Int) ≤ i
  ·rw [if_pos h1] at h
   have e : (i + n).toNat = j := Option.some.inj h
   exact ⟨by rw [seqIndex_neg (by lia) h1, e], by lia, h1, by lia⟩
  ·rw [if_neg h1] at h; cases h
theorem UZ {α : Type} {xs : List α} {i : Int} {v : α} (h : atI xs i = some v) : ∃ j, seqIndex? i xs.length = some j ∧ xs[j]? = some v ∧ j < xs.length ∧ -(xs.length : Int) ≤ i ∧ i < xs.length := by
 unfold atI at h
 cases e : ixN xs.length i with
 | none => rw [e] at h; cases h
 | some j =>
  rw [e] at h
  obtain ⟨h1, h2, h3, h4⟩ := Uc e
  exact ⟨j, h1, h, h2, h3, h4⟩
theorem IV {α : Type} {xs : List α} {j : Nat} {v : α} (h : xs[j]? = some v) : atI xs (j : Int) = some v := by
 have hj : j < xs.length := (List.getElem?_eq_some_iff.mp h).1
 have e : ixN xs.length (j : Int) = some j := by
  unfold ixN
  rw [if_pos (by lia), if_pos (by lia)]; simp
 unfold atI; rw [e]; exact h
theorem Vi {α : Type} (xs : List α) (v : α) : atI (xs ++ [v]) (-1) = some v := by
 have hl : (xs ++ [v]).length = xs.length + 1 := by simp
 have e : ixN (xs ++ [v]).length (-1) = some xs.length := by
  unfold ixN
  rw [hl, if_neg (by decide), if_pos (by lia)]
  congr 1
  lia
 unfold atI
 rw [e]
 show (xs ++ [v])[xs.length]? = some v
 simp
noncomputable def UA (b : Expr) : Prop := ∀ o i, subscripted b false o i = operate [o, i] (getItem o i)
noncomputable def IxR (X : Cx) (r : R2) : Prop :=
 ∀ (value slice : Expr) (pins : List (Addr × Obj)) (s : Shared) (σ : St) (H : Hp) (x y : V) (v u : Value) (Q : VK), Inv X pins σ H s → RelV x v → RelV y u → r x y H Q →
  subscripted slice false v u = operate [v, u] (getItem v u) → wpAny (model X.prog X.w) X.A (subscriptTail value slice v u) (EP X pins σ Q) X.xe s
noncomputable def MtR (X : Cx) (id : String) (r : V → List V → Hp → VK → Prop) : Prop :=
 ∀ (pins : List (Addr × Obj)) (s : Shared) (σ : St) (H : Hp) (x : V) (xs : List V) (v : Value) (us : List Value) (Q : VK), Inv X pins σ H s → RelV x v → As xs us → r x xs H Q →
  wpAny (model X.prog X.w) X.A (call (.builtin id) (v :: us)) (EP X pins σ Q) X.xe s
section
variable {X : Cx} {a b : Expr} {ta tb : TE} {pos : Pos}
theorem Wj {r : R2} (hr : IxR X r) (ha : PE X a ta) (hb : PE X b tb) (hs : UA b) : PE X (.Subscript a b pos) (tOp r ta tb) := by
 intro pins s σ H Q I h
 exact Subscript_ (Yk ha hb I h fun v u s2 x y H2 I2 rx ry q => hr a b pins s2 σ H2 x y v u Q I2 rx ry q (hs _ _))
noncomputable def PL (K : PySem.W.Frag) : R2 := fun x y H Q => ∃ p xs i v, x = .ref p ∧ y = .int i ∧ SqL K H p xs ∧ atI xs i = some v ∧ Q v H
noncomputable def OW (K : PySem.W.Frag) : R2 := fun x y H Q => ∃ p xs i v, x = .ref p ∧ y = .int i ∧ SqT K H p xs ∧ atI xs i = some v ∧ Q v H
theorem AM : IxR X (PL X.K) := by
 intro value slice pins s σ H x y v u Q I rx ry h hs
 obtain ⟨p, xs, i, z, rfl, rfl, hq, he, q⟩ := h
 cases rx
 obtain ⟨t, rfl⟩ := ry
 obtain ⟨its, r, pl, hz⟩ := I.list hq
 obtain ⟨j, h1, h2, h3, h4, h5⟩ := UZ he
 obtain ⟨w, ew, rw'⟩ := r.get h2
 have hl := r.length
 have hn := N3
 have fin : EP X pins σ Q w s := ⟨z, H, I, rw', q⟩
 by_cases h0 : 0 ≤ i
 ·have hj : i.toNat = j := by
   rw [seqIndex_of h0 h5] at h1
   exact Option.some.inj h1
  exact item_listR pl.isList h0 (by lia) (by rw [hj]; simpa using ew) fin hs
 ·have hj : (i + (its.toArray.size : Int)).toNat = j := by
   rw [seqIndex_neg (by lia) h4] at h1
   rw [List.size_toArray, ← hl]
   exact Option.some.inj h1
  exact subscriptTail_builtinR (x := w) pl.isList.typeIs slot_list_getitem.lookup
   (wpAny_getItem_list_neg (Q := fun r s' => r = w ∧ EP X pins σ Q r s') pl.isList (by lia) (by rw [List.size_toArray] <;> lia) (by lia) (by rw [hj]; simpa using ew) ⟨rfl, fin⟩) hs
theorem AK : IxR X (OW X.K) := by
 intro value slice pins s σ H x y v u Q I rx ry h hs
 obtain ⟨p, xs, i, z, rfl, rfl, hq, he, q⟩ := h
 cases rx
 obtain ⟨t, rfl⟩ := ry
 obtain ⟨its, r, pl, hz⟩ := I.tuple hq
 obtain ⟨j, h1, h2, h3, h4, h5⟩ := UZ he
 obtain ⟨w, ew, rw'⟩ := r.get h2
 have hl := r.length
 have hn := N3
 have fin : EP X pins σ Q w s := ⟨z, H, I, rw', q⟩
 exact subscriptTail_builtinR (x := w) pl.typeIs slot_tuple_getitem.lookup
  (getItem_tuple (j := j) (Q := fun r s' => r = w ∧ EP X pins σ Q r s') pl (by lia) (by lia) (by rw [List.size_toArray, ← hl]; exact h1) (by simpa using ew) ⟨rfl, fin⟩) hs
theorem S3 (its : List Value) (n j : Nat) (u : Value) : Obj.mapSeq (·.setIfInBounds j u) { cls := .type "list", data := .seq its.toArray n } = { cls := .type "list", data := .seq (its.set j u).toArray n } := by
 simp [Obj.mapSeq]
theorem Inv.lst {pins : List (Addr × Obj)} {σ : St} {H : Hp} {s : Shared} {p : Addr} {xs : List V} (I : Inv X pins σ H s) (h : H p = some (.lst xs)) :
  ∃ (its : List Value) (n : Nat), As xs its ∧ s.heap.get? p = some { cls := .type "list", data := .seq its.toArray n } ∧ xs.length ≤ sizeLine := by
 obtain ⟨z, its, n, r, e⟩ := I.hok p _ h
 exact ⟨its, n, r, e, z⟩
theorem Inv.lstUpd {pins : List (Addr × Obj)} {σ : St} {H : Hp} {s : Shared} {p : Addr} {xs ys : List V} {its its' : List Value} {n n' : Nat} {f : Obj → Obj} (I : Inv X pins σ H s) (h : H p = some (.lst xs))
  (ho : s.heap.get? p = some { cls := .type "list", data := .seq its.toArray n }) (hf : f { cls := .type "list", data := .seq its.toArray n } = { cls := .type "list", data := .seq its'.toArray n' }) (r : As ys its') (hz : ys.length ≤ sizeLine) (t : Nat) :
  Inv X pins σ (upd H p (.lst ys)) { s with heap := s.heap.update p f, toks := t } := by
 have e : (s.heap.update p f).get? p = some { cls := .type "list", data := .seq its'.toArray n' } := by
  rw [Heap.get?_update_self f ho (by rw [hf] <;> rfl), hf]
 refine I.write (x := p) (e := p) (by rw [h]; trivial) (.inl rfl) (fun b u hb q => (Heap.get?_update_other _ _ (Ne.symm hb)).trans q) ⟨_, e⟩ ?_
 exact ⟨hz, its', n', r, e⟩
noncomputable def JF : V → V → V → Hp → (Hp → Prop) → Prop := fun o i v H Q => ∃ p xs k j, o = .ref p ∧ i = .int k ∧ H p = some (.lst xs) ∧ ixN xs.length k = some j ∧ Q (upd H p (.lst (xs.set j v)))
theorem WG : PSet X JF := by
 intro pins s σ H o i v ov iv u Q I ro ri rv h
 obtain ⟨p, xs, k, j, rfl, rfl, hp, hj, q⟩ := h
 cases ro
 obtain ⟨t, rfl⟩ := ri
 obtain ⟨its, n, r, ho, hz⟩ := I.lst hp
 obtain ⟨h1, h2, h3, h4⟩ := Uc hj
 have hl := r.length
 have hn := N3
 have I' : Inv X pins σ (upd H p (.lst (xs.set j v))) { s with heap := s.heap.update p (Obj.mapSeq (·.setIfInBounds j u)) } :=
  I.lstUpd hp ho (S3 its n j u) (r.set rv j) (by rw [List.length_set]; exact hz) s.toks
 by_cases h0 : 0 ≤ k
 ·have hk : k.toNat = j := by
   rw [seqIndex_of h0 h4] at h1
   exact Option.some.inj h1
  exact PySem.W.ki_setAt ho h0 (by lia) (by rw [List.size_toArray, ← hl]; exact h4) (by rw [hk]; exact ⟨_, I', q⟩)
 ·have hk : (k + (its.toArray.size : Int)).toNat = j := by
   rw [seqIndex_neg (by lia) h3] at h1
   rw [List.size_toArray, ← hl]
   exact Option.some.inj h1
  exact PySem.W.ki_setBack ho (by lia) (by rw [List.size_toArray, ← hl]; exact h3) (by lia) (by rw [hk]; exact ⟨_, I', q⟩)
theorem Qy (lo hi : Option Int) (n : Nat) : (sliceBounds lo hi none n).1 = ((HT.sIx n 0 lo : Nat) : Int) ∧ (sliceBounds lo hi none n).2.1 = ((HT.sIx n n hi : Nat) : Int) ∧ (sliceBounds lo hi none n).2.2 = 1 := by
 refine ⟨?_, ?_, rfl⟩
 ·cases lo with
  | none => simp [sliceBounds, HT.sIx]
  | some i =>
   simp only [sliceBounds, HT.sIx, Option.getD_none, show (1 : Int) > 0 by decide, if_true]
   by_cases h : i < 0
   ·simp only [h, if_true] <;> lia
   ·simp only [h, if_false] <;> lia
 ·cases hi with
  | none => simp [sliceBounds, HT.sIx]
  | some i =>
   simp only [sliceBounds, HT.sIx, Option.getD_none, show (1 : Int) > 0 by decide, if_true]
   by_cases h : i < 0
   ·simp only [h, if_true] <;> lia
   ·simp only [h, if_false] <;> lia
theorem PV (its : List Value) (lo hi : Option Int) : slicePick its.toArray lo hi none = ((its.drop (HT.sIx its.length 0 lo)).take (HT.sIx its.length its.length hi - HT.sIx its.length 0 lo)).toArray := by
 obtain ⟨h1, h2, h3⟩ := Qy lo hi its.toArray.size
 unfold slicePick
 rw [h1, h2, h3]
 simp only [sliceRange_one, pick_run, List.size_toArray] <;> rfl
noncomputable def rSlL (K : PySem.W.Frag) : V → Option Int → Option Int → Hp → VK → Prop := fun x lo hi H Q => ∃ a xs, x = .ref a ∧ SqL K H a xs ∧ ∀ p, H p = none → Q (.ref p) (upd H p (.lst (Pl xs lo hi)))
theorem XT : SlR X (rSlL X.K) := by
 intro pins s σ H x v vl vu lo hi sl Q I rx hs pl pu h
 obtain ⟨a, xs, rfl, hx, q⟩ := h
 cases rx
 obtain ⟨its, r, ht, hz⟩ := I.list hx
 have hlen := r.length
 refine ⟨"list", _, slot_list_getitem.lookup, ht.isList.typeIs, ?_⟩
 refine wpAny_getItem_list_slice ht.isList hs pl pu .none (by simp) ?_ (by rw [List.size_toArray] <;> lia)
 rw [PV, ← hlen]
 refine ⟨.ref s.heap.objs.size, _, I.laid (t' := s.toks) (o := .lst (Pl xs lo hi)) (fun b ob q => Heap.get?_push_of_some _ q) (Nat.le_refl _) ?_, rfl, q _ (I.hok.fresh (Nat.le_refl _))⟩
 exact ⟨Nat.le_trans (SB xs lo hi) hz, _, 0, (r.drop (HT.sIx xs.length 0 lo)).take (HT.sIx xs.length xs.length hi - HT.sIx xs.length 0 lo), Heap.get?_push_size _ rfl⟩
noncomputable def LQ : V → Bool
 | .non => true
 | .bl _ => true
 | .int _ => true
 | .str _ => true
 | _ => false
noncomputable def eqV : V → V → Bool
 | .non, .non => true
 | .bl a, .bl b => a == b
 | .bl a, .int b => (if a then 1 else 0) == b
 | .int a, .bl b => a == (if b then 1 else 0)
 | .int a, .int b => a == b
 | .str a, .str b => a == b
 | _, _ => false
theorem aZ {A : Around} {s : Shared} {y x : V} {u v : Value} (ry : RelV y u) (rx : RelV x v) (fy : LQ y = true) (fx : LQ x = true) : SeqAt.EqAt A s u v (eqV y x) := by
 cases y with
 | non =>
  cases ry
  cases x with
  | non => cases rx; exact SeqAt.EqAt.same _
  | bl b => cases rx; exact SeqAt.EqAt.none_bool b
  | int b => obtain ⟨t, rfl⟩ := rx; exact SeqAt.EqAt.none_int b t
  | str b => obtain ⟨t, rfl⟩ := rx; exact SeqAt.EqAt.none_str b t
  | _ => exact absurd (show false = true from fx) Bool.false_ne_true
 | bl a =>
  cases ry
  cases x with
  | non => cases rx; exact SeqAt.EqAt.bool_none a
  | bl b => cases rx; exact SeqAt.EqAt.bool_bool a b
  | int b => obtain ⟨t, rfl⟩ := rx; exact SeqAt.EqAt.bool_int a b t
  | str b => obtain ⟨t, rfl⟩ := rx; exact SeqAt.EqAt.bool_str a b t
  | _ => exact absurd (show false = true from fx) Bool.false_ne_true
 | int a =>
  obtain ⟨t', rfl⟩ := ry
  cases x with
  | non => cases rx; exact SeqAt.EqAt.int_none a t'
  | bl b => cases rx; exact SeqAt.EqAt.int_bool a t' b
  | int b => obtain ⟨t, rfl⟩ := rx; exact SeqAt.EqAt.int_int a t' b t
  | str b => obtain ⟨t, rfl⟩ := rx; exact SeqAt.EqAt.int_str a t' b t
  | _ => exact absurd (show false = true from fx) Bool.false_ne_true
 | str a =>
  obtain ⟨t', rfl⟩ := ry
  cases x with
  | non => cases rx; exact SeqAt.EqAt.str_none a t'
  | bl b => cases rx; exact SeqAt.EqAt.str_bool a t' b
  | int b => obtain ⟨t, rfl⟩ := rx; exact SeqAt.EqAt.str_int a t' b t
  | str b => obtain ⟨t, rfl⟩ := rx; exact SeqAt.EqAt.str_str a t' b t
  | _ => exact absurd (show false = true from fx) Bool.false_ne_true
 | _ => exact absurd (show false = true from fy) Bool.false_ne_true
noncomputable def eqU (x : V) (u : Value) : Bool := match u with
 | .none => eqV .non x
 | .bool b => eqV (.bl b) x
 | .int i _ => eqV (.int i) x
 | .str z _ => eqV (.str z) x
 | _ => false
theorem WZ {x y : V} {u : Value} (r : RelV y u) (f : LQ y = true) : eqU x u = eqV y x := by
 cases y with
 | non => cases r; rfl
 | bl b => cases r; rfl
 | int i => obtain ⟨t, rfl⟩ := r; rfl
 | str z => obtain ⟨t, rfl⟩ := r; rfl
 | _ => exact absurd (show false = true from f) Bool.false_ne_true
theorem Lk {x : V} : ∀ {xs : List V} {us : List Value}, As xs us → xs.all LQ = true → us.any (eqU x) = xs.any fun y => eqV y x
 | _, _, .nil, _ => rfl
 | y :: xs, u :: us, .cons r t, f => by
  rw [List.all_cons, Bool.and_eq_true] at f
  rw [List.any_cons, List.any_cons, WZ r f.1, Lk t f.2]
theorem Ht {A : Around} {s : Shared} {x : V} {v : Value} (rx : RelV x v) (fx : LQ x = true) : ∀ {xs : List V} {us : List Value}, As xs us → xs.all LQ = true → ∀ u ∈ us, SeqAt.EqAt A s u v (eqU x u)
 | _, _, .nil, _ => fun u hu => by cases hu
 | y :: xs, u :: us, .cons r t, f => fun u' hu => by
  rw [List.all_cons, Bool.and_eq_true] at f
  rcases List.mem_cons.mp hu with rfl | hu
  ·rw [WZ r f.1]; exact aZ r rx f.1 fx
  ·exact Ht rx fx t f.2 u' hu
noncomputable def inV (x : V) (xs : List V) : Bool := xs.any fun y => eqV y x
noncomputable def rIn (K : PySem.W.Frag) (neg : Bool) : R2 := fun x y H Q => ∃ p xs, y = .ref p ∧ (SqL K H p xs ∨ SqT K H p xs) ∧ LQ x = true ∧ xs.all LQ = true ∧ Q (.bl (if neg then !inV x xs else inV x xs)) H
theorem VH : OpR X (compareOp .In) (rIn X.K false) := by
 intro pins s σ H x y v u Q I rx ry h
 obtain ⟨p, xs, rfl, hq, fx, fs, q⟩ := h
 cases ry
 rcases hq with hq | hq
 ·obtain ⟨its, r, pl, hz⟩ := I.list hq
  refine SeqAt.in_listAt (eqU x) pl.isList (fun w hw => Ht rx fx r fs w (by simpa using hw)) ⟨.bl _, H, I, rfl, ?_⟩
  rw [show its.toArray.any (eqU x) = its.any (eqU x) by simp, Lk r fs]
  exact q
 ·obtain ⟨its, r, pl, hz⟩ := I.tuple hq
  refine SeqAt.in_tupleAt (eqU x) pl (fun w hw => Ht rx fx r fs w (by simpa using hw)) ⟨.bl _, H, I, rfl, ?_⟩
  rw [show its.toArray.any (eqU x) = its.any (eqU x) by simp, Lk r fs]
  exact q
theorem Qt : OpR X (compareOp .NotIn) (rIn X.K true) := by
 intro pins s σ H x y v u Q I rx ry h
 obtain ⟨p, xs, rfl, hq, fx, fs, q⟩ := h
 cases ry
 rcases hq with hq | hq
 ·obtain ⟨its, r, pl, hz⟩ := I.list hq
  refine SeqAt.notIn_listAt (eqU x) pl.isList (fun w hw => Ht rx fx r fs w (by simpa using hw)) ⟨.bl _, H, I, rfl, ?_⟩
  rw [show its.toArray.any (eqU x) = its.any (eqU x) by simp, Lk r fs]
  exact q
 ·obtain ⟨its, r, pl, hz⟩ := I.tuple hq
  refine SeqAt.notIn_tupleAt (eqU x) pl (fun w hw => Ht rx fx r fs w (by simpa using hw)) ⟨.bl _, H, I, rfl, ?_⟩
  rw [show its.toArray.any (eqU x) = its.any (eqU x) by simp, Lk r fs]
  exact q
theorem AT : B1 X (.builtin "len") (fun xs H Q => ∃ p ys, xs = [.ref p] ∧ (SqL X.K H p ys ∨ SqT X.K H p ys) ∧ Q (.int ys.length) H) := by
 intro pins s σ H xs us Q I r h
 obtain ⟨p, ys, rfl, hq, q⟩ := h
 obtain ⟨u, rfl, rx⟩ := vals1 r
 cases rx
 have hn := N3
 rcases hq with hq | hq
 ·obtain ⟨its, r', pl, hz⟩ := I.list hq
  have hlen := r'.length
  exact Calls.call_len_list pl.isList (by simp only [List.size_toArray] <;> lia) ⟨.int ys.length, H, I.tok _, ⟨s.toks + 1, by rw [List.size_toArray, hlen]⟩, q⟩
 ·obtain ⟨its, r', pl, hz⟩ := I.tuple hq
  have hlen := r'.length
  exact len_tuple pl (by simp only [List.size_toArray] <;> lia) ⟨.int ys.length, H, I.tok _, ⟨s.toks + 1, by rw [List.size_toArray, hlen]⟩, q⟩
theorem Ql : B1 X (.type "list") (fun xs H Q => ∃ p ys, xs = [.ref p] ∧ (SqL X.K H p ys ∨ SqT X.K H p ys) ∧ ∀ l, H l = none → Q (.ref l) (upd H l (.lst ys))) := by
 intro pins s σ H xs us Q I r h
 obtain ⟨p, ys, rfl, hq, q⟩ := h
 obtain ⟨u, rfl, rx⟩ := vals1 r
 cases rx
 have fin : ∀ (its : List Value), As ys its → ys.length ≤ sizeLine → ∀ (h' : Heap) (c' : Nat), (∀ b o', s.heap.get? b = some o' → h'.get? b = some o') →
   h'.get? s.heap.objs.size = some { cls := .type "list", dict := none, data := .seq its.toArray c', slots := #[] } → EP X pins σ Q (.ref s.heap.objs.size) { s with heap := h' } := fun its r' hz h' c' kp e =>
  ⟨.ref s.heap.objs.size, _, I.laid (t' := s.toks) kp (Nat.le_refl _) (show BU X.prog X.w _ h' _ (.lst ys) from ⟨hz, its, c', r', e⟩), rfl, q _ (I.hok.fresh (Nat.le_refl _))⟩
 rcases hq with hq | hq
 ·obtain ⟨its, r', pl, hz⟩ := I.list hq
  have hlen := r'.length
  obtain ⟨o, ho, hc, n, hd⟩ := pl.isList
  exact call_list_seq p (.inl rfl) ho hc hd (fun h' c' kp e => fin its r' hz h' c' kp e) (by simp only [List.size_toArray] <;> lia)
 ·obtain ⟨its, r', pl, hz⟩ := I.tuple hq
  have hlen := r'.length
  obtain ⟨o, ho, hc, n, hd⟩ := pl
  exact call_list_seq p (.inr rfl) ho hc hd (fun h' c' kp e => fin its r' hz h' c' kp e) (by simp only [List.size_toArray] <;> lia)
noncomputable def tyV (K : PySem.W.Frag) (T : String) (x : V) (H : Hp) : Prop := match x with
 | .str _ => T = "str"
 | .int _ => T = "int"
 | .ref p => (T = "list" ∧ ∃ xs, SqL K H p xs) ∨ (T = "tuple" ∧ ∃ o, K.lookup p = some o ∧ o.cls = .type "tuple" ∧ o.dict = none) ∨
   (T = "dict" ∧ ((∃ kvs, H p = some (.dK kvs)) ∨ ∃ kvs, H p = some (.dT kvs))) ∨ (T = "set" ∧ ∃ S n, H p = some (.set S n))
 | _ => False
theorem V4 {pins : List (Addr × Obj)} {σ : St} {H : Hp} {s : Shared} {T : String} {x : V} {v : Value} (I : Inv X pins σ H s) (r : RelV x v) (ty : tyV X.K T x H) :
  s.TypeIs v T ∧ ∀ a, v = .ref a → ∃ ob, s.heap.get? a = some ob ∧ ob.dict = none := by
 cases x with
 | str z =>
  obtain ⟨t, rfl⟩ := r
  cases (show T = "str" from ty)
  exact ⟨typeIs_str s z t, fun _ e => nomatch e⟩
 | int i =>
  obtain ⟨t, rfl⟩ := r
  cases (show T = "int" from ty)
  exact ⟨typeIs_int s i t, fun _ e => nomatch e⟩
 | ref p =>
  cases r
  rcases ty with ⟨rfl, xs, hq⟩ | ⟨rfl, o, hk, hc, hd⟩ | ⟨rfl, hk⟩ | ⟨rfl, S, n, hk⟩
  ·obtain ⟨its, _, pl, _⟩ := I.list hq
   refine ⟨pl.isList.typeIs, fun a e => ?_⟩
   cases e
   obtain ⟨o, n, e, c, hd, _⟩ := pl
   exact ⟨o, e, hd⟩
  ·refine ⟨⟨o, I.kIn p o hk, hc⟩, fun a e => ?_⟩
   cases e
   exact ⟨o, I.kIn _ o hk, hd⟩
  ·have z : ∃ o, s.heap.get? p = some o ∧ o.ExactDict := by
    rcases hk with ⟨kvs, hk⟩ | ⟨kvs, hk⟩
    ·obtain ⟨_, _, _, _, o, _, _, e, ex, _⟩ := I.hok p _ hk
     exact ⟨o, e, ex⟩
    ·obtain ⟨_, _, _, _, o, _, _, e, ex, _⟩ := I.hok p _ hk
     exact ⟨o, e, ex⟩
   obtain ⟨o, e, ex⟩ := z
   refine ⟨⟨o, e, ex.1⟩, fun a e2 => ?_⟩
   cases e2
   exact ⟨o, e, ex.2.1⟩
  ·obtain ⟨o, _, _, _, e, ex, _⟩ := I.hok p _ hk
   refine ⟨⟨o, e, ex.1⟩, fun a e2 => ?_⟩
   cases e2
   exact ⟨o, e, ex.2.1⟩
 | _ => exact False.elim ty
noncomputable def ZV (K : PySem.W.Frag) (T : String) (r : V → List V → Hp → VK → Prop) (to : TE) : TE := fun σ H Q => to σ H fun x H1 => tyV K T x H1 ∧ r x [] H1 Q
noncomputable def tBM (K : PySem.W.Frag) (T : String) (r : V → List V → Hp → VK → Prop) (to : TE) (t : TA) : TE := fun σ H Q => to σ H fun x H1 => tyV K T x H1 ∧ t σ H1 fun xs H2 => r x xs H2 Q
variable {o e : Expr} {es : List Expr} {to : TE} {t : TA} {name : Str} {apos cpos : Pos} {T id : String} {r : V → List V → Hp → VK → Prop}
theorem Vg (pa : PlainAttrs T) (slot : Slot T name id) (hty : typeOf (.builtin id) = pure (.type "method_descriptor")) (hm : MtR X id r) (ho : PE X o to)
  (hbase : attributeBase o name X.env (eval o X.env) = eval o X.env := by rfl) (hline : (apos.endLine == cpos.line) = true := by rfl) : PE X (.Call (.Attribute o name apos) [] [] cpos) (ZV X.K T r to) := by
 intro pins s σ H Q I h
 refine wpAny_Call_method0_late hbase hline (thn (ho pins s σ H _ I h) fun v s1 zq => ?_)
 obtain ⟨x, H1, I1, r1, ty, q1⟩ := zq
 obtain ⟨h1, h2⟩ := V4 I1 r1 ty
 exact ⟨T, id, pa, slot, hty, h1, h2, Calls.callWith_builtin rfl (PySem.evalArgs_none (hm pins s1 σ H1 x [] v [] Q I1 r1 .nil q1))⟩
theorem Xy (pa : PlainAttrs T) (slot : Slot T name id) (hty : typeOf (.builtin id) = pure (.type "method_descriptor")) (hm : MtR X id r) (ho : PE X o to) (ha : PA X (e :: es) t)
  (hbase : attributeBase o name X.env (eval o X.env) = eval o X.env := by rfl)
  (hfew : ((backTo cpos (starEach (e :: es) X.env)).all (fun x => !x.1) && (backToKw cpos (keywordEach [] X.env)).all (fun x => x.1.isSome)
   && decide ((e :: es).length + ([] : List Keyword).length + (if ([] : List Keyword).isEmpty then 0 else 1) < 30)) = true := by rfl)
  (hline : (apos.endLine == cpos.line) = true := by rfl) (hs : starEach (e :: es) X.env = (false, eval e X.env) :: starEach es X.env := by rfl) (hplain : (backTo cpos (starEach es X.env)).any (·.1) = false := by rfl) :
  PE X (.Call (.Attribute o name apos) (e :: es) [] cpos) (tBM X.K T r to t) := by
 intro pins s σ H Q I h
 refine wpAny_Call_method_late hbase hfew hline rfl (thn (ho pins s σ H _ I h) fun v s1 zq => ?_)
 obtain ⟨x, H1, I1, r1, ty, q1⟩ := zq
 obtain ⟨h1, h2⟩ := V4 I1 r1 ty
 refine ⟨T, id, pa, slot, hty, h1, h2, ?_⟩
 have hA := ha cpos pins s1 σ H1 _ I1 q1
 rw [hs] at hA ⊢
 refine Calls.callWith_builtin (by show (false || (backTo cpos (starEach es X.env)).any (·.1)) = false; rw [hplain] <;> rfl) (Calls.evalArgs_plain ?_)
 exact thn hA fun us s2 ⟨vs, H2, I2, r2, q2⟩ => hm pins s2 σ H2 x vs v us Q I2 r1 r2 q2
end
noncomputable def MtM (X : Cx) (id : String) (r : V → List V → Hp → VK → Prop) : Prop :=
 ∀ (pins : List (Addr × Obj)) (s : Shared) (σ : St) (H : Hp) (x : V) (xs : List V) (v : Value) (us : List Value) (Q : VK), Inv X pins σ H s → RelV x v → As xs us → r x xs H Q →
  wpAny (model X.prog X.w) X.A (call (.builtin id) (v :: us)) (EP X pins σ Q) X.xe s
theorem As.one : ∀ {x : V} {us : List Value}, As [x] us → ∃ u, us = [u] ∧ RelV x u
 | _, _, .cons r .nil => ⟨_, rfl, r⟩
theorem As.zero : ∀ {us : List Value}, As [] us → us = []
 | _, .nil => rfl
theorem As.dropLast {xs : List V} {us : List Value} (h : As xs us) : As xs.dropLast us.dropLast := by
 induction h with
 | nil => exact .nil
 | cons r t ih =>
  cases t with
  | nil => exact .nil
  | cons q t' => exact .cons r ih
theorem TH {α : Type} (l : List α) : l.eraseIdx (l.length - 1) = l.dropLast := by
 induction l with
 | nil => rfl
 | cons a r ih =>
  cases r with
  | nil => rfl
  | cons b r =>
   have e : (a :: b :: r).length - 1 = ((b :: r).length - 1) + 1 := by
    have h1 : (a :: b :: r).length = r.length + 2 := rfl
    have h2 : (b :: r).length = r.length + 1 := rfl
    lia
   rw [e, List.eraseIdx_cons_succ, ih]
   all_goals rfl
section
variable {X : Cx} {pins : List (Addr × Obj)} {σ : St} {H : Hp} {s : Shared} {l b : Addr} {xs ys zs : List V}
theorem Inv.lset {its its' : List Value} {n : Nat} {f : Array Value → Array Value} {t' : Nat} (I : Inv X pins σ H s) (hH : H l = some (.lst xs))
  (e : s.heap.get? l = some { cls := .type "list", data := .seq its.toArray n }) (hf : f its.toArray = its'.toArray) (hv : As ys its') (hz : ys.length ≤ sizeLine) :
  Inv X pins σ (upd H l (.lst ys)) { s with heap := s.heap.update l (Obj.mapSeq f), toks := t' } := by
 have q := PySem.IsL.update e f
 rw [hf] at q
 refine I.write (x := l) (e := l) (by rw [hH]; exact trivial) (.inl rfl) (fun b' u hb hu => (Heap.get?_update_other s.heap (Obj.mapSeq f) (Ne.symm hb)).trans hu) ⟨_, q⟩ ?_
 exact ⟨hz, its', _, hv, q⟩
theorem Inv.lnew {its : List Value} {t' : Nat} (I : Inv X pins σ H s) (hv : As ys its) (hz : ys.length ≤ sizeLine) :
  Inv X pins σ (upd H s.heap.objs.size (.lst ys)) { s with heap := s.heap.push { cls := .type "list", data := .seq its.toArray }, toks := t' } :=
 I.laid (fun _ _ q => Heap.get?_push_of_some _ q) (Nat.le_refl _) ⟨hz, its, 0, hv, Heap.get?_push_size _ rfl⟩
theorem Inv.fresh (I : Inv X pins σ H s) : H s.heap.objs.size = none := I.hok.fresh (Nat.le_refl _)
theorem Inv.lstM (I : Inv X pins σ H s) (hH : H l = some (.lst xs)) : xs.length ≤ sizeLine ∧ ∃ (its : List Value) (n : Nat), As xs its ∧ xs.length = its.length ∧ s.heap.get? l = some { cls := .type "list", data := .seq its.toArray n } := by
 obtain ⟨z, its, n, r, e⟩ := I.hok l _ hH
 exact ⟨z, its, n, r, r.length, e⟩
end
section
variable {X : Cx}
noncomputable def XX : V → List V → Hp → VK → Prop := fun x vs H Q => ∃ l xs y, x = .ref l ∧ vs = [y] ∧ H l = some (.lst xs) ∧ xs.length < sizeLine ∧ Q .non (upd H l (.lst (xs ++ [y])))
theorem Py : MtM X "list.append" XX := by
 intro pins s σ H x vs v us Q I rx rv h
 obtain ⟨l, xs, y, rfl, rfl, hH, hz, q⟩ := h
 cases rx
 obtain ⟨u, rfl, ru⟩ := rv.one
 obtain ⟨z, its, n, r, hl, e⟩ := I.lstM hH
 refine call_meets F.slot_list_append ⟨_, e, rfl⟩ F.entry_list_append (F.args_list_append_2 _ _) (PySem.list_append l its.toArray n u (by rw [List.size_toArray]; lia)) ⟨e, ?_⟩
 refine ⟨.non, _, I.lset (its' := its ++ [u]) hH e (by simp) (r.append (.cons ru .nil)) ?_, rfl, q⟩
 rw [List.length_append, List.length_singleton]
 lia
noncomputable def rPop : V → List V → Hp → VK → Prop := fun x vs H Q => ∃ l xs y, x = .ref l ∧ vs = [] ∧ H l = some (.lst xs) ∧ xs[xs.length - 1]? = some y ∧ Q y (upd H l (.lst xs.dropLast))
theorem Ym : MtM X "list.pop" rPop := by
 intro pins s σ H x vs v us Q I rx rv h
 obtain ⟨l, xs, y, rfl, rfl, hH, hy, q⟩ := h
 cases rx
 have hus := rv.zero
 subst hus
 obtain ⟨z, its, n, r, hl, e⟩ := I.lstM hH
 obtain ⟨u, hu, ru⟩ := r.get hy
 have hy' : its.toArray[its.toArray.size - 1]? = some u := by
  show its.toArray[its.length - 1]? = some u
  rw [← Array.getElem?_toList, ← hl]
  exact hu
 refine call_meets F.slot_list_pop ⟨_, e, rfl⟩ F.entry_list_pop (F.args_list_pop_1 _) (MeetsSeq.list_pop_last l its.toArray n u hy' (by rw [List.size_toArray]; lia)) ⟨e, ?_⟩
 refine ⟨y, _, I.lset (its' := its.dropLast) hH e ?_ r.dropLast ?_, ru, q⟩
 ·show its.toArray.eraseIdxIfInBounds (its.toArray.size - 1) = its.dropLast.toArray
  rw [List.size_toArray, List.eraseIdxIfInBounds_toArray, TH]
 ·rw [List.length_dropLast]
  lia
noncomputable def rCat : R2 := fun x y H Q => ∃ l b xs zs, x = .ref l ∧ y = .ref b ∧ H l = some (.lst xs) ∧ H b = some (.lst zs) ∧ xs.length + zs.length ≤ sizeLine ∧ ∀ p, H p = none → Q (.ref p) (upd H p (.lst (xs ++ zs)))
theorem Zx : OpR X (binaryOp .Add) rCat := by
 intro pins s σ H x y v u Q I rx ry h
 obtain ⟨l, b, xs, zs, rfl, rfl, hH, hB, hz, q⟩ := h
 cases rx
 cases ry
 obtain ⟨z, its, n, r, hl, e⟩ := I.lstM hH
 obtain ⟨z2, its2, n2, r2, hl2, e2⟩ := I.lstM hB
 refine PySem.P.add_list e e2 ?_ (by rw [List.size_toArray, List.size_toArray]; lia)
 have ea : its.toArray ++ its2.toArray = (its ++ its2).toArray := by simp
 rw [ea]
 exact ⟨.ref _, _, I.lnew (t' := s.toks) (r.append r2) (by rw [List.length_append]; lia), rfl, q _ I.fresh⟩
end
section
variable {prog : Program} {w : World} {A : Around} {E : Value → Shared → Prop} {s : Shared}
set_option maxRecDepth 100000 in
end
section
variable {X : Cx}
end
section
variable {κ : Type} [DecidableEq κ]
noncomputable def CB (kvs : List (κ × V)) (k : κ) : Option V := (kvs.find? fun kv => decide (kv.1 = k)).map (·.2)
noncomputable def Cz (kvs : List (κ × V)) (k : κ) (v : V) : List (κ × V) :=
 if (kvs.any fun kv => decide (kv.1 = k)) = true then kvs.map (fun kv => if kv.1 = k then (kv.1, v) else kv) else kvs ++ [(k, v)]
noncomputable def Dd (kvs : List (κ × V)) (k : κ) : List (κ × V) := kvs.filter fun kv => decide (kv.1 ≠ k)
theorem Bg {p : κ × V} {r : List (κ × V)} {k : κ} (e : p.1 = k) : CB (p :: r) k = some p.2 := by simp [CB, List.find?_cons, e]
theorem Bc {p : κ × V} {r : List (κ × V)} {k : κ} (e : ¬ p.1 = k) : CB (p :: r) k = CB r k := by simp [CB, List.find?_cons, e]
theorem FG (k : κ) : ∀ kvs : List (κ × V), (kvs.any fun kv => decide (kv.1 = k)) = (CB kvs k).isSome
 | [] => rfl
 | p :: r => by
  rw [List.any_cons]
  by_cases e : p.1 = k
  ·simp only [Bg e, decide_eq_true e, Bool.true_or, Option.isSome_some]
  ·rw [Bc e, decide_eq_false e, Bool.false_or]; exact FG k r
theorem Rb (k j : κ) (y : V) : ∀ kvs : List (κ × V), CB (kvs.map fun kv => if kv.1 = k then (kv.1, y) else kv) j = (CB kvs j).map fun x => if j = k then y else x
 | [] => rfl
 | p :: r => by
  have ih := Rb k j y r
  rw [List.map_cons]
  by_cases h : p.1 = k
  ·rw [if_pos h]
   by_cases e : p.1 = j
   ·rw [Bg (p := (p.1, y)) e, Bg e, Option.map_some, if_pos (e.symm.trans h)]
   ·rw [Bc (p := (p.1, y)) e, Bc e, ih]
  ·rw [if_neg h]
   by_cases e : p.1 = j
   ·rw [Bg (p := p) e, Bg e, Option.map_some, if_neg (fun z => h (e.trans z))]
   ·rw [Bc (p := p) e, Bc e, ih]
theorem QV (k j : κ) (y : V) : ∀ kvs : List (κ × V), CB kvs k = none → CB (kvs ++ [(k, y)]) j = if j = k then some y else CB kvs j
 | [], _ => by
  by_cases e : k = j
  ·rw [if_pos e.symm]; exact Bg (p := (k, y)) e
  ·rw [if_neg (fun z => e z.symm)]; exact Bc (p := (k, y)) e
 | p :: r, hn => by
  rw [List.cons_append]
  have hk : ¬ p.1 = k := fun z => by rw [Bg z] at hn; cases hn
  rw [Bc hk] at hn
  have ih := QV k j y r hn
  by_cases e : p.1 = j
  ·rw [Bg e, Bg e, if_neg (fun z => hk (e.trans z))]
  ·rw [Bc e, Bc e, ih]
theorem OU (kvs : List (κ × V)) (k j : κ) (y : V) : CB (Cz kvs k y) j = if j = k then some y else CB kvs j := by
 unfold Cz
 by_cases a : (kvs.any fun kv => decide (kv.1 = k)) = true
 ·rw [if_pos a, Rb]
  rw [FG] at a
  by_cases e : j = k
  ·obtain ⟨x, hx⟩ := Option.isSome_iff_exists.mp a
   rw [if_pos e, e, hx, Option.map_some, if_pos rfl]
  ·rw [if_neg e]
   cases CB kvs j with
   | none => rfl
   | some x => rw [Option.map_some, if_neg e]
 ·rw [if_neg a]
  refine QV k j y kvs ?_
  rw [FG] at a
  cases q : CB kvs k with
  | none => rfl
  | some x => rw [q] at a; exact (a rfl).elim
theorem Hx (kvs : List (κ × V)) (k : κ) (v : V) : (Cz kvs k v).length ≤ kvs.length + 1 := by
 unfold Cz
 split
 ·rw [List.length_map]; lia
 ·rw [List.length_append, List.length_cons, List.length_nil]; lia
theorem GK.isSome_eq {o : Option V} {u : Option Value} (r : GK o u) : o.isSome = u.isSome := by
 cases o with
 | none => cases u with
  | none => rfl
  | some _ => exact (show False from r).elim
 | some _ => cases u with
  | none => exact (show False from r).elim
  | some _ => rfl
theorem GK.getD {o : Option V} {u : Option Value} {d : V} {d' : Value} (r : GK o u) (rd : RelV d d') : RelV (o.getD d) (u.getD d') := by
 cases o with
 | none => cases u with
  | none => exact rd
  | some _ => exact (show False from r).elim
 | some _ => cases u with
  | none => exact (show False from r).elim
  | some _ => exact r
theorem KV.val {kvs : List (κ × V)} {vs : List (κ × Value)} (r : KV kvs vs) (k : κ) : GK (CB kvs k) (valueAt vs k) := by
 unfold KV at r
 induction r with
 | nil => exact True.intro
 | @cons p q ps qs h t ih =>
  obtain ⟨h1, h2⟩ := h
  by_cases e : p.1 = k
  ·have e' : q.1 = k := h1.symm.trans e
   have b : valueAt (q :: qs) k = some q.2 := by simp [valueAt, List.find?_cons, e']
   rw [Bg e, b]; exact h2
  ·have e' : ¬ q.1 = k := fun z => e (h1.trans z)
   have b : valueAt (q :: qs) k = valueAt qs k := by simp [valueAt, List.find?_cons, e']
   rw [Bc e, b]; exact ih
theorem KV.any {kvs : List (κ × V)} {vs : List (κ × Value)} (r : KV kvs vs) (k : κ) : (kvs.any fun kv => decide (kv.1 = k)) = vs.any fun kv => decide (kv.1 = k) := by
 unfold KV at r
 induction r with
 | nil => rfl
 | cons h t ih => rw [List.any_cons, List.any_cons, ih, h.1]
theorem KV.repl {kvs : List (κ × V)} {vs : List (κ × Value)} (r : KV kvs vs) (k : κ) {y : V} {u : Value} (ry : RelV y u) :
  KV (kvs.map fun kv => if kv.1 = k then (kv.1, y) else kv) (vs.map fun kv => if kv.1 = k then (kv.1, u) else kv) := by
 unfold KV at r ⊢
 induction r with
 | nil => exact .nil
 | @cons p q ps qs h t ih =>
  rw [List.map_cons, List.map_cons]
  refine .cons ?_ ih
  obtain ⟨h1, h2⟩ := h
  by_cases e : p.1 = k
  ·rw [if_pos e, if_pos (h1.symm.trans e)]; exact ⟨h1, ry⟩
  ·rw [if_neg e, if_neg (fun z => e (h1.trans z))]; exact ⟨h1, h2⟩
theorem KV.put {kvs : List (κ × V)} {vs : List (κ × Value)} (r : KV kvs vs) (k : κ) {y : V} {u : Value} (ry : RelV y u) : KV (Cz kvs k y) (stored vs k u) := by
 unfold Cz stored
 rw [r.any k]
 by_cases e : (vs.any fun kv => decide (kv.1 = k)) = true
 ·rw [if_pos e, if_pos e]; exact r.repl k ry
 ·rw [if_neg e, if_neg e]; exact Paired.snoc r ⟨rfl, ry⟩
theorem KV.drop {kvs : List (κ × V)} {vs : List (κ × Value)} (r : KV kvs vs) (k : κ) : KV (Dd kvs k) (without vs k) := by
 unfold KV at r ⊢
 unfold Dd without
 induction r with
 | nil => exact .nil
 | @cons p q ps qs h t ih =>
  obtain ⟨h1, h2⟩ := h
  rw [List.filter_cons, List.filter_cons]
  by_cases e : p.1 = k
  ·have a : ¬ decide (p.1 ≠ k) = true := by simp [e]
   have b : ¬ decide (q.1 ≠ k) = true := by simp [h1.symm.trans e]
   rw [if_neg a, if_neg b]; exact ih
  ·have e' : ¬ q.1 = k := fun z => e (h1.trans z)
   have a : decide (p.1 ≠ k) = true := by simp [e]
   have b : decide (q.1 ≠ k) = true := by simp [e']
   rw [if_pos a, if_pos b]; exact .cons ⟨h1, h2⟩ ih
theorem KV.length {kvs : List (κ × V)} {vs : List (κ × Value)} (r : KV kvs vs) : kvs.length = vs.length := Paired.length r
theorem Vm (kvs : List (κ × V)) (k : κ) : (Dd kvs k).length ≤ kvs.length := List.length_filter_le _ _
end
theorem OI {P : Program} {w : World} {k : Key} {u : Value} (r : RelV (kV k) u) : (BJ P w).is k u = true := by
 cases k with
 | inl i => obtain ⟨t, e⟩ := (show ∃ t, u = Value.int i t from r); subst e; exact RZ P w i t
 | inr x => obtain ⟨t, e⟩ := (show ∃ t, u = Value.str x t from r); subst e; exact Rj P w x t
theorem Qc {P : Program} {w : World} : ∀ {ks : List Key} {us : List Value}, As (ks.map kV) us → ItemsAre (BJ P w) ks us
 | [], _, r => by rw [List.map_nil] at r; cases r; exact .nil
 | k :: ks, _, r => by
  rw [List.map_cons] at r
  cases r with
  | cons h t => exact .cons (OI h) (Qc t)
noncomputable abbrev KT (H : Hp) : List (List Key × V) → List (List Key × Addr × Value) → Prop := Paired fun p q => p.1 = q.1 ∧ H q.2.1 = some (.tup (p.1.map kV)) ∧ RelV p.2 q.2.2
theorem KT.val {H : Hp} {kvs : List (List Key × V)} {xs : List (List Key × Addr × Value)} (r : KT H kvs xs) (k : List Key) : GK (CB kvs k) ((atKey xs k).map (·.2)) := by
 induction r with
 | nil => exact True.intro
 | @cons p q ps qs h t ih =>
  obtain ⟨h1, _, h2⟩ := h
  by_cases e : p.1 = k
  ·have e' : q.1 = k := h1.symm.trans e
   have b : atKey (q :: qs) k = some q.2 := by simp [atKey, List.find?_cons, e']
   rw [Bg e, b]; exact h2
  ·have e' : ¬ q.1 = k := fun z => e (h1.trans z)
   have b : atKey (q :: qs) k = atKey qs k := by simp [atKey, List.find?_cons, e']
   rw [Bc e, b]; exact ih
theorem KT.repl {H : Hp} {kvs : List (List Key × V)} {xs : List (List Key × Addr × Value)} (r : KT H kvs xs) (k : List Key) {y : V} {u : Value} (ry : RelV y u) :
  KT H (kvs.map fun kv => if kv.1 = k then (kv.1, y) else kv) (xs.map (putAt k u)) := by
 induction r with
 | nil => exact .nil
 | @cons p q ps qs h t ih =>
  rw [List.map_cons, List.map_cons]
  refine .cons ?_ ih
  obtain ⟨h1, h2, h3⟩ := h
  unfold putAt
  by_cases e : p.1 = k
  ·rw [if_pos e, if_pos (h1.symm.trans e)]; exact ⟨h1, h2, ry⟩
  ·rw [if_neg e, if_neg (fun z => e (h1.trans z))]; exact ⟨h1, h2, h3⟩
theorem KT.put {H : Hp} {kvs : List (List Key × V)} {xs : List (List Key × Addr × Value)} (r : KT H kvs xs) (k : List Key) {b : Addr} {y : V} {u : Value} (hb : H b = some (.tup (k.map kV))) (ry : RelV y u) :
  KT H (Cz kvs k y) (storedH xs k b u) := by
 have e : (kvs.any fun kv => decide (kv.1 = k)) = (atKey xs k).isSome := by
  rw [FG, (r.val k).isSome_eq, Option.isSome_map]
 unfold Cz storedH
 rw [e]
 by_cases q : (atKey xs k).isSome = true
 ·rw [if_pos q, if_pos q]; exact r.repl k ry
 ·rw [if_neg q, if_neg q]; exact Paired.snoc r ⟨rfl, hb, ry⟩
theorem KT.keeps {H H' : Hp} {kvs : List (List Key × V)} {xs : List (List Key × Addr × Value)} (r : KT H kvs xs) (ht : ∀ b ys, H b = some (.tup ys) → H' b = some (.tup ys)) : KT H' kvs xs :=
 Paired.mapP r fun _ _ z => ⟨z.1, ht _ _ z.2.1, z.2.2⟩
section
variable {P : Program} {w : World} {H : Hp} {h : Heap} {a : Addr}
theorem X5 {u : HO} (ok : HOk P w H h) (e : Rd H a u) : BU P w H h a u := e.ok ok
theorem Mv {kvs : List (Key × V)} (ok : HOk P w H h) (e : Rd H a (.dK kvs)) : kvs.length ≤ sizeLine ∧ (a == sysModules) = false ∧ ∃ vs, KV kvs vs ∧ h.DictOf (BJ P w) a vs :=
 show BU P w H h a (.dK kvs) from X5 ok e
theorem Pt {kvs : List (Key × V)} (ok : HOk P w H h) (e : H a = some (.dK kvs)) : kvs.length ≤ sizeLine ∧ (a == sysModules) = false ∧ ∃ vs, KV kvs vs ∧ h.DictOf (BJ P w) a vs := Mv ok (.inl e)
theorem MO {ks : List Key} (ok : HOk P w H h) (e : H a = some (.tup (ks.map kV))) : (tupleKind (BJ P w)).is h ks a := by
 obtain ⟨_, its, r, o, h1, h2, n, h3⟩ := (show BU P w H h a (.tup (ks.map kV)) from ok a _ e)
 exact ⟨o, its.toArray, n, h1, h2, h3, by simpa using Qc r⟩
theorem N8 {kvs : List (List Key × V)} (ok : HOk P w H h) (e : Rd H a (.dT kvs)) : kvs.length ≤ sizeLine ∧ (a == sysModules) = false ∧
  ∃ xs, KT H kvs xs ∧ h.DictOfH (tupleKind (BJ P w)) a xs := by
 obtain ⟨z, y, xs, r, o, es, ep, h1, h2, h3, h4, h5⟩ := (show BU P w H h a (.dT kvs) from X5 ok e)
 refine ⟨z, y, xs, r, o, es, ep, h1, h2, h3, h4, fun x hx => ?_, h5⟩
 have all : ∀ {l : List (List Key × V)} {m : List (List Key × Addr × Value)}, KT H l m → ∀ x ∈ m, (tupleKind (BJ P w)).is h x.1 x.2.1 := by
  intro l m q
  induction q with
  | nil => intro x hx; exact nomatch hx
  | @cons p q ps qs hq t ih =>
   intro x hx
   rcases List.mem_cons.mp hx with e | hx
   ·subst e
    exact MO ok (by rw [← hq.1]; exact hq.2.1)
   ·exact ih x hx
 exact all r x hx
theorem dt_of {kvs : List (List Key × V)} (ok : HOk P w H h) (e : H a = some (.dT kvs)) : kvs.length ≤ sizeLine ∧ (a == sysModules) = false ∧
  ∃ xs, KT H kvs xs ∧ h.DictOfH (tupleKind (BJ P w)) a xs := N8 ok (.inl e)
end
noncomputable def G1 (H : Hp) (a : Addr) (y : V) (r : Option V) : Prop :=
 (∃ kvs k, Rd H a (.dK kvs) ∧ y = kV k ∧ r = CB kvs k) ∨ ∃ kvs k b, Rd H a (.dT kvs) ∧ y = .ref b ∧ H b = some (.tup (k.map kV)) ∧ r = CB kvs k
noncomputable def Se (H : Hp) (a : Addr) (y v : V) (H' : Hp) : Prop :=
 (∃ kvs k, H a = some (.dK kvs) ∧ y = kV k ∧ kvs.length < sizeLine ∧ H' = upd H a (.dK (Cz kvs k v))) ∨
 ∃ kvs k b, H a = some (.dT kvs) ∧ y = .ref b ∧ H b = some (.tup (k.map kV)) ∧ kvs.length < sizeLine ∧ H' = upd H a (.dT (Cz kvs k v))
theorem G1.k {H : Hp} {a : Addr} {kvs : List (Key × V)} {k : Key} (e : H a = some (.dK kvs)) : G1 H a (kV k) (CB kvs k) := .inl ⟨kvs, k, .inl e, rfl, rfl⟩
theorem Se.k {H : Hp} {a : Addr} {kvs : List (Key × V)} {k : Key} {v : V} (e : H a = some (.dK kvs)) (hl : kvs.length < sizeLine) : Se H a (kV k) v (upd H a (.dK (Cz kvs k v))) := .inl ⟨kvs, k, e, rfl, hl, rfl⟩
section
variable {X : Cx} {pins : List (Addr × Obj)} {σ : St} {H : Hp} {s : Shared} {a : Addr} {y v : V} {u r : Value} {o : Option V} {A : Around} {E : Value → Shared → Prop}
theorem Inv.big (I : Inv X pins σ H s) : sysModules < s.heap.objs.size := by
 have h : mainGlobals < s.heap.objs.size := (I.mod.glob.keeps I.bk).lt
 exact Nat.lt_trans (by decide) h
theorem Ur {Q : Value → Shared → Prop} (hu : A.units + 1 < cLine) (I : Inv X pins σ H s) (g : G1 H a y (some v)) (ry : RelV y u) (h : ∀ w' s', Inv X pins σ H s' → RelV v w' → Q w' s') :
  wpAny (model X.prog X.w) A (getItem (.ref a) u) Q E s := by
 rcases g with ⟨kvs, k, e, ey, l⟩ | ⟨kvs, k, b, e, ey, eb, l⟩
 ·subst ey
  obtain ⟨z, hd, vs, rel, dd⟩ := Mv I.hok e
  obtain ⟨w', hw, rw'⟩ := GK.some_of (v := v) (o := valueAt vs k) (by rw [l]; exact rel.val k)
  exact wpAny_getItem_of (OI ry) dd.mapOf hw (h w' _ (I.tok _) rw')
 ·subst ey
  cases (show u = Value.ref b from ry)
  obtain ⟨z, hd, xs, rel, dd⟩ := N8 I.hok e
  obtain ⟨w', hw, rw'⟩ := GK.some_of (v := v) (o := (atKey xs k).map (·.2)) (by rw [l]; exact rel.val k)
  obtain ⟨p, hp, hp2⟩ := Option.map_eq_some_iff.mp hw
  refine wpAny_getItem_heap (tupleKind_room_in1 hu) (MO I.hok eb) dd hp ?_
  rw [hp2]
  exact h w' _ (I.tok _) rw'
theorem d_in {Q : Value → Shared → Prop} (hu : A.units + 1 < cLine) (I : Inv X pins σ H s) (g : G1 H a y o) (ry : RelV y u) (h : ∀ s', Inv X pins σ H s' → Q (.bool o.isSome) s') :
  wpAny (model X.prog X.w) A (compareOp .In u (.ref a)) Q E s := by
 rcases g with ⟨kvs, k, e, ey, l⟩ | ⟨kvs, k, b, e, ey, eb, l⟩
 ·subst ey
  obtain ⟨z, hd, vs, rel, dd⟩ := Mv I.hok e
  refine wpAny_in_of (OI ry) hd dd.mapOf ?_
  rw [← (rel.val k).isSome_eq, ← l]
  exact h _ (I.tok _)
 ·subst ey
  cases (show u = Value.ref b from ry)
  obtain ⟨z, hd, xs, rel, dd⟩ := N8 I.hok e
  refine wpAny_in_heap (tupleKind_room_in1 hu) (MO I.hok eb) hd dd ?_
  have q := (rel.val k).isSome_eq
  rw [Option.isSome_map] at q
  rw [← q, ← l]
  exact h _ (I.tok _)
theorem Xn {Q : Value → Shared → Prop} (hu : A.units + 1 < cLine) (I : Inv X pins σ H s) (g : G1 H a y o) (ry : RelV y u) (h : ∀ s', Inv X pins σ H s' → Q (.bool (!o.isSome)) s') :
  wpAny (model X.prog X.w) A (compareOp .NotIn u (.ref a)) Q E s := by
 rcases g with ⟨kvs, k, e, ey, l⟩ | ⟨kvs, k, b, e, ey, eb, l⟩
 ·subst ey
  obtain ⟨z, hd, vs, rel, dd⟩ := Mv I.hok e
  refine wpAny_notIn_of (OI ry) hd dd.mapOf ?_
  rw [← (rel.val k).isSome_eq, ← l]
  exact h _ (I.tok _)
 ·subst ey
  cases (show u = Value.ref b from ry)
  obtain ⟨z, hd, xs, rel, dd⟩ := N8 I.hok e
  refine wpAny_notIn_heap (tupleKind_room_in1 hu) (MO I.hok eb) hd dd ?_
  have q := (rel.val k).isSome_eq
  rw [Option.isSome_map] at q
  rw [← q, ← l]
  exact h _ (I.tok _)
theorem LV {h' : Heap} {t' : Nat} {ob : HO} (I : Inv X pins σ H s) (mu : Mut (H a)) (hs : Heap.SameBut a s.heap h') (he : ∃ q, h'.get? a = some q) (new : BU X.prog X.w (upd H a ob) h' a ob) :
  Inv X pins σ (upd H a ob) { s with heap := h', toks := t' } :=
 I.write (x := a) (e := a) mu (.inl rfl) (fun b q hb z => (hs.2 b hb).trans z) he new
theorem Qs {P : Program} {w : World} {H' : Hp} {h' : Heap} {kvs : List (Key × V)} {vs : List (Key × Value)} (z : kvs.length ≤ sizeLine) (hd : (a == sysModules) = false) (rel : KV kvs vs) (dd : h'.DictOf (BJ P w) a vs) :
  BU P w H' h' a (.dK kvs) := ⟨z, hd, vs, rel, dd⟩
theorem VV {H' : Hp} {Q : Unit → Shared → Prop} (hu : A.units + 1 < cLine) (I : Inv X pins σ H s) (g : Se H a y v H') (ry : RelV y u) (rv : RelV v r) (h : ∀ s', Inv X pins σ H' s' → Q () s') :
  wpAny (model X.prog X.w) A (setItem (.ref a) u r) Q E s := by
 rcases g with ⟨kvs, k, e, ey, l, eH⟩ | ⟨kvs, k, b, e, ey, eb, l, eH⟩
 ·subst ey eH
  obtain ⟨z, hd, vs, rel, dd⟩ := Pt I.hok e
  have hz : vs.length ≤ sizeLine := by rw [← rel.length]; exact z
  have hl : (Cz kvs k v).length ≤ sizeLine := by have := Hx kvs k v; lia
  refine wpAny_setItem_pairs (hsz := hz) (OI ry) dd fun h' dd' hs => h _ ?_
  have he : ∃ q, h'.get? a = some q := let ⟨q, _, _, hq, _⟩ := dd'; ⟨q, hq⟩
  exact LV I (by rw [e]; exact True.intro) hs he (Qs hl hd (rel.put k rv) dd')
 ·subst ey eH
  cases (show u = Value.ref b from ry)
  obtain ⟨z, hd, xs, rel, dd⟩ := dt_of I.hok e
  have hz : xs.length ≤ sizeLine := by rw [← Paired.length rel]; exact z
  have hl : (Cz kvs k v).length ≤ sizeLine := by have := Hx kvs k v; lia
  refine wpAny_setItem_heap (hsz := hz) (tupleKind_room_in1 hu) (MO I.hok eb) dd fun h' dd' hs => h _ ?_
  obtain ⟨q, es, ep, hq, h2, h3, h4, _, h5⟩ := dd'
  refine LV I (by rw [e]; exact True.intro) hs ⟨q, hq⟩ ⟨hl, hd, _, (rel.put k eb rv).keeps fun c ys ec => ?_, q, es, ep, hq, h2, h3, h4, h5⟩
  rw [AN (Be ec e (fun z => nomatch z))]
  exact ec
end
section
variable {X : Cx} {pins : List (Addr × Obj)} {σ : St} {H : Hp} {s : Shared} {a : Addr} {kvs : List (Key × V)} {k : Key} {u : Value} {A : Around} {E : Value → Shared → Prop}
theorem d_pop {v : V} {more : List Value} {Q : Value → Shared → Prop} (I : Inv X pins σ H s) (e : H a = some (.dK kvs)) (ry : RelV (kV k) u) (l : CB kvs k = some v) (hm : more = [] ∨ ∃ x, more = [x])
  (h : ∀ w' s', Inv X pins σ (upd H a (.dK (Dd kvs k))) s' → RelV v w' → Q w' s') : wpAny (model X.prog X.w) A (call (.builtin "dict.pop") (.ref a :: u :: more)) Q E s := by
 obtain ⟨z, hd, vs, rel, dd⟩ := Pt I.hok e
 obtain ⟨w', hw, rw'⟩ := GK.some_of (v := v) (o := valueAt vs k) (by rw [← l]; exact rel.val k)
 have hp : (keyPart u).isSome = true := by
  cases k with
  | inl i => obtain ⟨t, q⟩ := (show ∃ t, u = Value.int i t from ry); subst q; rfl
  | inr x => obtain ⟨t, q⟩ := (show ∃ t, u = Value.str x t from ry); subst q; rfl
 have ha : argsOk "dict.pop" ⟨.ref a :: u :: more, []⟩ := by
  rcases hm with q | ⟨x, q⟩
  ·subst q; exact PySem.F.args_dict_pop_2 _ _
  ·subst q; exact PySem.F.args_dict_pop_3 _ _ _
 refine call_meetsIn PySem.F.slot_dict_pop dd.typeIs PySem.F.entry_dict_pop ha (meets_dict_pop_there (BJ X.prog X.w) a (OI ry) more hm hp)
  ⟨vs, w', dd, by rw [← rel.length]; exact z, hw, fun h' dd' hs => h w' _ ?_ rw'⟩
 have he : ∃ q, h'.get? a = some q := let ⟨q, _, _, hq, _⟩ := dd'; ⟨q, hq⟩
 exact LV I (by rw [e]; exact True.intro) hs he (Qs (Nat.le_trans (Vm kvs k) z) hd (rel.drop k) dd')
theorem d_len {Q : Value → Shared → Prop} (I : Inv X pins σ H s) (e : Rd H a (.dK kvs)) (h : ∀ t s', Inv X pins σ H s' → Q (.int kvs.length t) s') : wpAny (model X.prog X.w) A (call (.builtin "len") [.ref a]) Q E s := by
 obtain ⟨z, hd, vs, rel, dd⟩ := Mv I.hok e
 refine call_len_dict hd dd (by rw [← rel.length]; rw [sizeLine_eq] at z; lia) ?_
 rw [← rel.length]
 exact h _ _ (I.tok _)
end
noncomputable def NoSl (i : Expr) : Prop := ∀ ov iv, subscripted i false ov iv = operate [ov, iv] (getItem ov iv)
theorem XG {prog : Program} {w : World} {A : Around} {E : Value → Shared → Prop} {s : Shared} {env : Env} {value slice : Expr} {pos : Pos} {T id : String} {Q : Value → Shared → Prop}
  (hl : typeLookup (.type T) "__getitem__" = pure (some (.builtin id))) (hs : NoSl slice)
  (h : wpAny (model prog w) A (eval value env) (fun o s₁ => wpAny (model prog w) A (eval slice env) (fun i s₂ => s₂.TypeIs o T ∧ wpAny (model prog w) A (getItem o i) Q E s₂) E s₁) E s) :
  wpAny (model prog w) A (eval (.Subscript value slice pos) env) Q E s := by
 refine Subscript_ (wpAny_mono h (fun o s₁ h₁ => wpAny_mono h₁ (fun i s₂ h₂ => ?_) fun _ _ x => x) fun _ _ x => x)
 obtain ⟨hT, h₂⟩ := h₂
 unfold subscriptTail
 refine wpAny_bind ?_
 rw [getitemInPython_of_ne hT.not_modules]
 refine wpAny_bind (wpAny_specialOf hT hl ?_)
 have fin : wpAny (model prog w) A (subscripted slice false o i) (fun r s₃ => wpAny (model prog w) A (letTemporaryGo value o r >>= fun _ => pure r) Q E s₃) E s₂ := by
  rw [hs o i]
  exact wpAny_operating (wpAny_mono h₂ (fun r s₃ h₃ => wpAny_bind (wpAny_letTemporaryGo (wpAny_pure h₃))) fun _ _ x => x)
 first
  | exact wpAny_pure (wpAny_bind fin)
  | exact wpAny_bind (wpAny_pure (wpAny_bind fin))
  | exact wpAny_bind fin
theorem Sd {X : Cx} {pins : List (Addr × Obj)} {σ : St} {H : Hp} {s : Shared} {a : Addr} {y : V} {o : Option V} (I : Inv X pins σ H s) (g : G1 H a y o) : s.TypeIs (.ref a) "dict" := by
 rcases g with ⟨kvs, k, e, _, _⟩ | ⟨kvs, k, b, e, _, _, _⟩
 ·obtain ⟨_, _, vs, _, dd⟩ := Mv I.hok e
  exact dd.typeIs
 ·obtain ⟨_, _, xs, _, dd⟩ := N8 I.hok e
  exact dd.typeIs
noncomputable def HE (td ty : TE) : TE := fun σ H Q => td σ H fun x H1 => ty σ H1 fun y H2 => ∃ a v, x = .ref a ∧ G1 H2 a y (some v) ∧ Q v H2
noncomputable def Oz (ty td : TE) : TE := fun σ H Q => ty σ H fun y H1 => td σ H1 fun x H2 => ∃ a o, x = .ref a ∧ G1 H2 a y o ∧ Q (.bl o.isSome) H2
noncomputable def DB (ty td : TE) : TE := fun σ H Q => ty σ H fun y H1 => td σ H1 fun x H2 => ∃ a o, x = .ref a ∧ G1 H2 a y o ∧ Q (.bl (!o.isSome)) H2
noncomputable def JO (td ty tv : TE) : TS := fun D σ H => tv σ H fun v H1 => td σ H1 fun x H2 => ty σ H2 fun y H3 => ∃ a H4, x = .ref a ∧ Se H3 a y v H4 ∧ D.nx σ H4
section
variable {X : Cx} {o i e value : Expr} {pos pos' tpos : Pos} {td ty tv : TE}
theorem Ua (hu : X.A.units + 1 < cLine) (ho : PE X o td) (hi : PE X i ty) (hs : NoSl i) : PE X (.Subscript o i pos) (HE td ty) := by
 intro pins s σ H Q I h
 refine XG PySem.F.slot_dict_getitem.lookup hs (thn (ho pins s σ H _ I h) fun u s1 ⟨x, H1, I1, rx, q1⟩ => thn (hi pins s1 σ H1 _ I1 q1) fun iv s2 zq => ?_)
 obtain ⟨y, H2, I2, ry, a, v, ex, g, q2⟩ := zq
 subst ex
 obtain rfl : u = Value.ref a := rx
 exact ⟨Sd I2 g, Ur hu I2 g ry fun w' s3 I3 rw' => ⟨v, H2, I3, rw', q2⟩⟩
theorem Wo (hu : X.A.units + 1 < cLine) (hi : PE X i ty) (ho : PE X o td) : PC X .In i o (Oz ty td) := by
 intro pins s σ H Q I h
 refine thn (hi pins s σ H _ I h) fun iv s1 ⟨y, H1, I1, ry, q1⟩ => thn (ho pins s1 σ H1 _ I1 q1) fun u s2 zq => ?_
 obtain ⟨x, H2, I2, rx, a, ov, ex, g, q2⟩ := zq
 subst ex
 obtain rfl : u = Value.ref a := rx
 exact d_in hu I2 g ry fun s3 I3 => ⟨.bl ov.isSome, H2, I3, rfl, q2⟩
theorem U6 (hu : X.A.units + 1 < cLine) (hi : PE X i ty) (ho : PE X o td) : PC X .NotIn i o (DB ty td) := by
 intro pins s σ H Q I h
 refine thn (hi pins s σ H _ I h) fun iv s1 ⟨y, H1, I1, ry, q1⟩ => thn (ho pins s1 σ H1 _ I1 q1) fun u s2 zq => ?_
 obtain ⟨x, H2, I2, rx, a, ov, ex, g, q2⟩ := zq
 subst ex
 obtain rfl : u = Value.ref a := rx
 exact Xn hu I2 g ry fun s3 I3 => ⟨.bl (!ov.isSome), H2, I3, rfl, q2⟩
theorem UM (hu : X.A.units + 1 < cLine) (ho : PE X o td) (hi : PE X i ty) (hv : PE X value tv) (hs : swapsWith value (some (.Subscript o i pos')) pos.line X.env = pure false) :
  PS X (.Assign [.Subscript o i pos'] value pos) (JO td ty tv) := by
 intro pins s σ H D I h
 refine wpAny_Assign_Subscript (thn (hv pins s σ H _ I h) fun r s1 ⟨v, H1, I1, rv, q1⟩ => thn (ho pins s1 σ H1 _ I1 q1) fun u s2 ⟨x, H2, I2, rx, q2⟩ => thn (hi pins s2 σ H2 _ I2 q2) fun iv s3 ⟨y, H3, I3, ry, a, H4, ex, g, q3⟩ => ?_) hs
 subst ex
 obtain rfl : u = Value.ref a := rx
 exact VV hu I3 g ry rv fun s4 I4 => ⟨σ, H4, I4, q3⟩
end
theorem Vh {P : Program} {w : World} {H : Hp} (h : Heap) (hb : sysModules < h.objs.size) : BU P w H (h.push { cls := .type "dict", data := .dict #[] }) h.objs.size (.dK []) :=
 ⟨Nat.zero_le _, beq_eq_false_iff_ne.mpr (Ne.symm (Nat.ne_of_lt hb)), [], .nil, Heap.DictOf.new h⟩
noncomputable def Zv : TE := fun _ H Q => ∀ p, H p = none → Q (.ref p) (upd H p (.dK []))
section
variable {X : Cx} {pos : Pos}
theorem Wt : PE X (.Dict [] [] pos) Zv := fun pins s σ H Q I h =>
 wpAny_Dict_empty ⟨.ref s.heap.objs.size, _, I.laid (a := s.heap.objs.size) (o := .dK []) (t' := s.toks) (fun _ _ q => Heap.get?_push_of_some _ q) (Nat.le_refl _) (Vh s.heap I.big), rfl, h _ (I.hok.fresh (Nat.le_refl _))⟩
end
structure M1 (X : Cx) (o : Expr) (m : Str) (apos : Pos) (e : Expr) (cpos : Pos) : Prop where
 base : attributeBase o m X.env (eval o X.env) = eval o X.env
 few : ((backTo cpos (starEach [e] X.env)).all (fun x => !x.1) && (backToKw cpos (keywordEach [] X.env)).all (fun x => x.1.isSome)
  && decide (([e] : List Expr).length + ([] : List Keyword).length + (if ([] : List Keyword).isEmpty then 0 else 1) < 30)) = true
 line : (apos.endLine == cpos.line) = true
 trees : backTo cpos (starEach [e] X.env) = [(false, eval e X.env)]
structure M2 (X : Cx) (o : Expr) (m : Str) (apos : Pos) (e f : Expr) (cpos : Pos) : Prop where
 base : attributeBase o m X.env (eval o X.env) = eval o X.env
 few : ((backTo cpos (starEach [e, f] X.env)).all (fun x => !x.1) && (backToKw cpos (keywordEach [] X.env)).all (fun x => x.1.isSome)
  && decide (([e, f] : List Expr).length + ([] : List Keyword).length + (if ([] : List Keyword).isEmpty then 0 else 1) < 30)) = true
 line : (apos.endLine == cpos.line) = true
 trees : backTo cpos (starEach [e, f] X.env) = [(false, eval e X.env), (false, eval f X.env)]
noncomputable def IsD (H : Hp) (a : Addr) : Prop := (∃ kvs, Rd H a (.dK kvs)) ∨ ∃ kvs, Rd H a (.dT kvs)
theorem WW {X : Cx} {pins : List (Addr × Obj)} {σ : St} {H : Hp} {s : Shared} {a : Addr} (I : Inv X pins σ H s) (d : IsD H a) :
  s.TypeIs (.ref a) "dict" ∧ (∀ b, Value.ref a = .ref b → ∃ ob, s.heap.get? b = some ob ∧ ob.dict = none) ∧ (a == sysModules) = false := by
 rcases d with ⟨kvs, e⟩ | ⟨kvs, e⟩
 ·obtain ⟨_, hd, vs, _, dd⟩ := Mv I.hok e
  refine ⟨dd.typeIs, fun b q => ?_, hd⟩
  cases q
  obtain ⟨ob, _, _, h1, h2, _⟩ := dd
  exact ⟨ob, h1, h2.2.1⟩
 ·obtain ⟨_, hd, xs, _, dd⟩ := N8 I.hok e
  refine ⟨dd.typeIs, fun b q => ?_, hd⟩
  cases q
  obtain ⟨ob, _, _, h1, h2, _⟩ := dd
  exact ⟨ob, h1, h2.2.1⟩
section
variable {X : Cx} {pins : List (Addr × Obj)} {σ : St} {H : Hp} {s : Shared} {a : Addr} {y d : V} {u r : Value} {o : Option V} {A : Around} {E : Value → Shared → Prop}
theorem ZA {Q : Value → Shared → Prop} (hu : A.units + 1 < cLine) (I : Inv X pins σ H s) (g : G1 H a y o) (ry : RelV y u) (rd : RelV d r) (h : ∀ w' s', Inv X pins σ H s' → RelV (o.getD d) w' → Q w' s') :
  wpAny (model X.prog X.w) A (call (.builtin "dict.get") [.ref a, u, r]) Q E s := by
 rcases g with ⟨kvs, k, e, ey, l⟩ | ⟨kvs, k, b, e, ey, eb, l⟩
 ·subst ey
  obtain ⟨z, hd, vs, rel, dd⟩ := Mv I.hok e
  refine call_meetsIn PySem.F.slot_dict_get dd.typeIs PySem.F.entry_dict_get (PySem.F.args_dict_get_3 _ _ _) (meets_dict_get_default (BJ X.prog X.w) a (OI ry) hd r) ⟨_, dd.mapOf, h _ _ (I.tok _) ?_⟩
  rw [l]
  exact (rel.val k).getD rd
 ·subst ey
  cases (show u = Value.ref b from ry)
  obtain ⟨z, hd, xs, rel, dd⟩ := N8 I.hok e
  refine call_meetsIn PySem.F.slot_dict_get dd.typeIs PySem.F.entry_dict_get (PySem.F.args_dict_get_3 _ _ _) (meetsH_dict_get_default (tupleKind (BJ X.prog X.w)) a b hd r) ⟨tupleKind_room_in1 hu, k, xs, MO I.hok eb, dd, h _ _ (I.tok _) ?_⟩
  rw [l]
  exact (rel.val k).getD rd
end
noncomputable def Ee (td ty tx : TE) : TE := fun σ H Q => td σ H fun x H1 => ∃ a, x = .ref a ∧ IsD H1 a ∧ ty σ H1 fun y H2 => tx σ H2 fun z H3 => ∃ o, G1 H3 a y o ∧ Q (o.getD z) H3
noncomputable def Ew (td ty : TE) : TE := fun σ H Q => td σ H fun x H1 => ∃ a, x = .ref a ∧ IsD H1 a ∧ ty σ H1 fun y H2 => ∃ kvs k v, H2 a = some (.dK kvs) ∧ y = kV k ∧ CB kvs k = some v ∧ Q v (upd H2 a (.dK (Dd kvs k)))
section
variable {X : Cx} {o e f : Expr} {apos cpos : Pos} {td ty tx : TE}
theorem Vp (hu : X.A.units + 1 < cLine) (ho : PE X o td) (he : PE X e ty) (hf : PE X f tx) (m : M2 X o "get" apos e f cpos) : PE X (.Call (.Attribute o "get" apos) [e, f] [] cpos) (Ee td ty tx) := by
 intro pins s σ H Q I h
 refine wpAny_Call_method m.base m.few m.line PySem.F.plainAttrs_dict PySem.F.slot_dict_get PySem.F.type_dict_get (thn (ho pins s σ H _ I h) fun u s1 zq => ?_)
 obtain ⟨x, H1, I1, rx, a, ex, d, q1⟩ := zq
 subst ex
 obtain rfl : u = Value.ref a := rx
 obtain ⟨t1, t2, _⟩ := WW I1 d
 refine ⟨t1, t2, ?_⟩
 rw [m.trees]
 refine Calls.callWith_builtin rfl (Calls.evalArgs_plain (Calls.spliced_cons (thn (he pins s1 σ H1 _ I1 q1) fun iv s2 ⟨y, H2, I2, ry, q2⟩ =>
  Calls.spliced_cons (thn (hf pins s2 σ H2 _ I2 q2) fun fv s3 ⟨z, H3, I3, rz, ov, g, q3⟩ => Calls.spliced_nil ?_))))
 exact ZA hu I3 g ry rz fun w' s4 I4 rw' => ⟨_, H3, I4, rw', q3⟩
theorem Wp (ho : PE X o td) (he : PE X e ty) (m : M1 X o "pop" apos e cpos) : PE X (.Call (.Attribute o "pop" apos) [e] [] cpos) (Ew td ty) := by
 intro pins s σ H Q I h
 refine wpAny_Call_method m.base m.few m.line PySem.F.plainAttrs_dict PySem.F.slot_dict_pop PySem.F.type_dict_pop (thn (ho pins s σ H _ I h) fun u s1 zq => ?_)
 obtain ⟨x, H1, I1, rx, a, ex, d, q1⟩ := zq
 subst ex
 obtain rfl : u = Value.ref a := rx
 obtain ⟨t1, t2, _⟩ := WW I1 d
 refine ⟨t1, t2, ?_⟩
 rw [m.trees]
 refine Calls.callWith_builtin rfl (Calls.evalArgs_plain (Calls.spliced_cons (thn (he pins s1 σ H1 _ I1 q1) fun iv s2 ⟨y, H2, I2, ry, kvs, k, v, ea, ey, l, q2⟩ => Calls.spliced_nil ?_)))
 subst ey
 exact d_pop I2 ea ry l (.inl rfl) fun w' s3 I3 rw' => ⟨v, _, I3, rw', q2⟩
end
section
variable {X : Cx} {pins : List (Addr × Obj)} {σ : St} {H : Hp} {s : Shared} {a : Addr} {kvs : List (Key × V)} {A : Around} {E : Value → Shared → Prop}
end
section
variable {X : Cx} {pins : List (Addr × Obj)} {σ : St} {H : Hp} {s : Shared} {a : Addr} {y : V} {u : Value} {A : Around} {E : Value → Shared → Prop}
end
end L2
namespace Att
open PySem PySem.W PySem.Calls PyProof.Rows
theorem ints_of_wellAll {P : Params} {h : Heap} : ∀ (ns : List Int) (vs : List Value), WellAll P h vs (ns.map WData.int) → IntsAre vs ns := by
 intro ns
 induction ns with
 | nil =>
  intro vs w
  rw [List.map_nil] at w
  cases w
  exact .nil
 | cons n ns ih =>
  intro vs w
  rw [List.map_cons] at w
  cases w with
  | cons a b =>
   cases a
   exact .cons _ _ (ih _ b)
theorem script_of {l : OpenLaw} {n : Nat} (hn : l.most = some n) {P : Params} {h : Heap} {args : List WData} {vals : List Value}
  (hpre : l.row.toRowW.claim.pre args = true) (hwl : WellAll P h vals args) :
  ∃ a vs ns, vals = [Value.ref a] ∧ args = [WData.list (ns.map WData.int)] ∧ h.get? a = some { cls := .type "list", data := .seq vs.toArray } ∧ IntsAre vs ns ∧ ns.length ≤ n := by
 have hsh : WShape.hasAll [] args [.list .int] = true := (pre_splitW hpre).1
 have hc : l.pre.holds [] { args := args } = true := (pre_splitW hpre).2
 obtain ⟨d, r, rfl, h1, h2⟩ := hasAllW_cons hsh
 obtain rfl := hasAllW_nil h2
 obtain ⟨xs, rfl, h3⟩ := hasW_list h1
 obtain ⟨ns, rfl⟩ := items_int h3
 have hlen : ns.length ≤ n := by
  unfold OpenLaw.pre at hc
  have h4 : (WTm.not (.lt (.lit (.int (n : Int))) (.len (.arg 0)))).holds [] { args := [.list (ns.map .int)] } = true := by
   have h4 := (holds_andW hc).1
   rw [hn] at h4
   exact h4
  have h5 := condW_of h4 (w_not (w_lt w_lit (w_len_list (w_arg rfl))))
  rw [List.length_map] at h5
  refine Nat.le_of_not_lt fun q => ?_
  have q' : (n : Int) < ((ns.length : Nat) : Int) := by lia
  first
   | (rw [decide_eq_true q'] at h5; exact absurd h5 (by decide))
   | (simp at h5; lia)
 cases hwl with
 | cons w1 w2 =>
  cases w2
  cases w1 with
  | list ho hall => exact ⟨_, _, ns, rfl, rfl, ho, ints_of_wellAll ns _ hall, hlen⟩
theorem post_true (l : OpenLaw) (args : List WData) : l.row.toRowW.claim.post args (.bool true) args = true :=
 postW_of (r := l.row.toRowW) (X := (true == true))
  (show WShape.has [] (.bool true) .bool = true by first | rfl | decide | simp [WShape.has, WShape.arms, WShape.armsAll])
  (show (WTm.eq .res (.lit (.bool true))).value [] { args := args, res := some (.bool true), after := args } = some (.bool (true == true)) from w_eq_bool (w_res rfl) w_lit) rfl
theorem attach_call {l : OpenLaw} {n : Nat} {q : Program} {loose : List Str} {XP : (Str → Option Value) → Heap → Prop} {YP : World → Heap → Prop} {d : DefRec}
  (hn : l.most = some n) (hdf : d.params.defaults = [])
  (call : ∀ (w : World) (s₀ s₁ : Shared) (mg mb : Str → Option Value) (fa : Addr) (o : Obj) (pm cd doc : Value) (a : Addr) (vs : List Value) (ns : List Int),
   Ground q loose [] XP w s₀ mg mb s₁.heap → YP w s₁.heap →
   s₁.heap.get? fa = some o → o.data = .func (docDef d.name d.params d.body d.scope pm cd doc) → s₁.heap.CodeRec cd d.name → mg d.name = some (.ref fa) →
   s₁.heap.get? a = some { cls := .type "list", data := .seq vs.toArray } → IntsAre vs ns → ns.length ≤ n → s₁.gens = #[] →
   codeAny (model l.prog w) callerA (.call (.ref fa) ⟨[.ref a], []⟩) (fun r s' => r = .ok (.ret (.bool true)) ∧ OldK s₁.heap s'.heap ∧ s'.os = s₁.os ∧ AllBare s'.gens) s₁) :
  WalkO q loose XP YP l.row.toRowW d [] (fun f vs => PySem.call f vs) := by
 intro w s₀ s₁ mg mb G Y fa o pm cd doc dV kV ho hd hcd hD hmg hg args vals as hpre hlay hrd hwl hlo
 obtain rfl : dV = .none := Dflts.none hD hdf
 obtain rfl : kV = .none := Dflts.noKw hD
 obtain ⟨a, vs, ns, rfl, rfl, hobj, hints, hlen⟩ := script_of hn hpre hwl
 refine enter_call (codeAny_mono (call w s₀ s₁ mg mb fa o pm cd doc a vs ns G Y ho (fd_plain hd) hcd hmg hobj hints hlen hg) fun r s' hq => ?_)
 obtain ⟨rfl, h2, h3, h4⟩ := hq
 exact ⟨.inl ⟨.bool true, .bool true, [], rfl, fun _ => rfl, .bool true, post_true l _, fun _ => ⟨List.Pairwise.nil, fun _ hm => (nomatch hm)⟩⟩, h2, h3, h4⟩
section
variable {prog : Program} {w : World} {A : Around} {E : Value → Shared → Prop} {s : Shared} {K : Frag}
noncomputable def noObjs (h : Heap) : Heap := { h with objs := #[] }
theorem noObjs_get (h : Heap) (b : Addr) : (noObjs h).get? b = none := by
 cases e : (noObjs h).get? b with
 | none => rfl
 | some o => exact absurd (Heap.lt_size e) (Nat.not_lt_zero _)
noncomputable def ledger (h : Heap) (L d : Addr) : List (Addr × Obj) := (List.range h.objs.size).filterMap fun a => if a = L ∨ a = d then none else (h.get? a).map fun o => (a, o)
theorem mem_ledger {h : Heap} {L d a : Addr} {o : Obj} : (a, o) ∈ ledger h L d ↔ a ≠ L ∧ a ≠ d ∧ h.get? a = some o := by
 unfold ledger
 rw [List.mem_filterMap]
 constructor
 ·rintro ⟨b, _, e⟩
  split at e
  ·cases e
  ·rename_i hb
   obtain ⟨o', ho, e'⟩ := Option.map_eq_some_iff.mp e
   cases e'
   exact ⟨fun q => hb (.inl q), fun q => hb (.inr q), ho⟩
 ·rintro ⟨n1, n2, ho⟩
  refine ⟨a, List.mem_range.mpr (Heap.lt_size ho), ?_⟩
  rw [if_neg (show ¬ (a = L ∨ a = d) from fun q => q.elim n1 n2), ho] <;> rfl
theorem fr_all {h : Heap} {L : Addr} {m : Str → Option Value} (n : h.Ns L m) : Fr (noObjs h) L h m :=
 ⟨n, fun b o e => (by rw [noObjs_get] at e; cases e), Nat.zero_le _⟩
end
end Att
namespace L2
open PySem PySem.Spec PyProof.Rows
theorem Pw : ∀ {vs : List Value} {ns : List Int}, IntsAre vs ns → As (ns.map V.int) vs
 | _, _, .nil => .nil
 | _, _, .cons n t h => .cons ⟨t, rfl⟩ (Pw h)
noncomputable def BH (s : Stmt) (j : Nat) : Stmt := match s with
 | .ClassDef _ _ _ body _ _ _ _ _ _ _ => body.getD j (.Pass ⟨0, 0, 0, 0⟩)
 | _ => .Pass ⟨0, 0, 0, 0⟩
noncomputable def Bz (s : Stmt) : Arguments := match s with
 | .FunctionDef _ a _ _ _ _ _ _ _ _ => a
 | _ => { posonlyargs := [], args := [], vararg := none, kwonlyargs := [], kw_defaults := [], kwarg := none, defaults := [] }
noncomputable def BR (s : Stmt) : List Stmt := match s with
 | .FunctionDef _ _ b _ _ _ _ _ _ _ => b
 | _ => []
noncomputable def AG (s : Stmt) : Scope := match s with
 | .FunctionDef _ _ _ _ _ _ sc _ _ _ => sc
 | _ => { kind := .function, names := [], isGenerator := false, isCoroutine := false }
noncomputable abbrev CX0 : CXT := fun _ _ _ _ _ _ => False
noncomputable abbrev E0 : XK := fun _ _ _ => False
theorem AW {X : Cx} : En CX0 X E0 := fun _ _ _ _ _ _ _ h => h.elim
structure Fun (K : PySem.W.Frag) (x qual : Str) (st : Stmt) (f : Addr) (fd : FuncData) : Prop where
 ex : ∃ (oc : Value) (od : Option Addr) (kV doc pm : Value) (an : Option Addr) (cdv ct : Value) (osl : Array (Option Value)),
  fd = PySem.W.fnOf x qual (Bz st) (BR st) (AG st) .none kV doc pm an cdv ct ∧ K.lookup f = some ⟨oc, od, .func fd, osl⟩ ∧ PySem.W.codeIn K cdv qual = true
 kp : PySem.W.keepIn K (.ref f) = true
section
variable {P : Program} {w : World} {K : PySem.W.Frag} {mg : Str → Option Value} {base : Heap}
theorem Fun.ok {x qual : Str} {st : Stmt} {f : Addr} {fd : FuncData} {N ps : List Str} {k : Nat} {sp : Sp} (F : Fun K x qual st f fd) (S : AO N ps (AG st)) (len : ∀ vs H Q E, sp vs H Q E → vs.length = ps.length)
  (hbody : ∀ (cdv : Value) (A : Around) (outer : List Env) (s : Shared) (H : Hp) (vs : List V) (Q : VK) (E : XK), CJ k (A.deeper (envOfC qual (AG st) s.heap.objs.size f cdv)) → sp vs H Q E →
   ∃ t, PSs (Fd CX0 P w K mg base N qual (AG st) f cdv A outer s H E).nox (BR st) t ∧ t { nx := fun _ H' => Q .non H', rt := Q } (start N vs) H) : Ao P w K mg base CX0 (k + 1) f fd ps sp := by
 obtain ⟨oc, od, kV, doc, pm, an, cdv, ct, osl, rfl, lk, hcd⟩ := F.ex
 refine UE lk hcd S len fun A outer s H vs Q E hr hsp => ?_
 obtain ⟨t, h, q⟩ := hbody cdv A outer s H vs Q E hr hsp
 exact ⟨t, h.nox, q⟩
theorem Fun.binds {x qual : Str} {st : Stmt} {f : Addr} {fd : FuncData} {ps : List Str} (F : Fun K x qual st f fd)
  (h : ∀ (kV doc pm : Value) (an : Option Addr) (cdv ct : Value) (us : List Value), us.length = ps.length → bindArgs (PySem.W.fnOf x qual (Bz st) (BR st) (AG st) .none kV doc pm an cdv ct) ⟨us, []⟩ = pure (ps.zip us)) : Binds K fd ps [] := by
 obtain ⟨oc, od, kV, doc, pm, an, cdv, ct, osl, rfl, lk, hcd⟩ := F.ex
 exact .all (h kV doc pm an cdv ct)
theorem MR {x qual : Str} {st : Stmt} {f : Addr} {oc : Value} {od an : Option Addr} {osl : Array (Option Value)} {kV doc pm cdv ct : Value} (l : K.lookup f = some ⟨oc, od, .func (PySem.W.fnOf x qual (Bz st) (BR st) (AG st) .none kV doc pm an cdv ct), osl⟩)
  (c : PySem.W.codeIn K cdv qual = true) (k : PySem.W.keepIn K (.ref f) = true) : Fun K x qual st f (PySem.W.fnOf x qual (Bz st) (BR st) (AG st) .none kV doc pm an cdv ct) := ⟨⟨oc, od, kV, doc, pm, an, cdv, ct, osl, rfl, l, c⟩, k⟩
end
theorem Ad {A : Around} {k : Nat} (hr : CJ k A) : A.units + 1 < cLine := Nat.lt_of_le_of_lt (Nat.add_le_add_left (by decide : 1 ≤ 64) _) hr.units
section
variable {X : Cx}
theorem pv (i : Nat) {x : Str} {pos : Pos} (hN : X.N[i]? = some x := by rfl) (hv : Vis X.env.scope x := by first | exact Or.inl rfl | exact Or.inr (Or.inl rfl) | exact Or.inr (Or.inr rfl)) (hd : (x == ("__debug__" : Str)) = false := by decide)
  (hcd : (x == ("__classdict__" : Str)) = false := by decide) : PE X (.Name x pos) (L0 i) := Zk hN hv hd hcd
end
noncomputable def AI (H H' : Hp) : Prop := ∀ b o, H b = some o → H' b = some o
theorem AI.refl (H : Hp) : AI H H := fun _ _ h => h
theorem AI.trans {H H1 H2 : Hp} (a : AI H H1) (b : AI H1 H2) : AI H H2 := fun c o h => b c o (a c o h)
theorem AI.free {H H' : Hp} (e : AI H H') {l : Addr} (h : H' l = Option.none) : H l = Option.none := by
 cases q : H l with
 | none => rfl
 | some o =>
  rw [e l o q] at h
  cases h
theorem AI.seq {K : PySem.W.Frag} {H H' : Hp} {a : Addr} {xs : List V} (e : AI H H') (h : SqL K H a xs) : SqL K H' a xs := by
 rcases h with (h | ⟨o, h⟩) | h
 ·exact .inl (.inl (e _ _ h))
 ·exact .inl (.inr ⟨o, e _ _ h⟩)
 ·exact .inr h
section
variable {X : Cx}
theorem Di : B1 X (.builtin "len") (fun xs H Q => ∃ a kvs, xs = [V.ref a] ∧ H a = some (.dK kvs) ∧ Q (.int kvs.length) H) := by
 intro pins s σ H xs us Q I r h
 obtain ⟨a, kvs, rfl, ha, q⟩ := h
 obtain ⟨u, rfl, ru⟩ := vals1 r
 cases ru
 exact d_len I (.inl ha) fun t s' I' => ⟨.int kvs.length, H, I', ⟨t, rfl⟩, q⟩
end
section
variable {κ : Type} [DecidableEq κ]
theorem Xf {kvs : List (κ × V)} {k : κ} {v : V} (h : CB kvs k = some v) : k ∈ kvs.map (·.1) := by
 have q : (kvs.any fun kv => decide (kv.1 = k)) = true := by
  rw [FG, h]
  all_goals rfl
 obtain ⟨p, hp, e⟩ := List.any_eq_true.mp q
 exact List.mem_map.mpr ⟨p, hp, of_decide_eq_true e⟩
theorem UK : ∀ {l : List κ} {k : κ}, l.Nodup → ¬ k ∈ l → (l ++ [k]).Nodup
 | [], k, _, _ => by simp
 | a :: r, k, h, hk => by
  obtain ⟨h1, h2⟩ := List.nodup_cons.mp h
  show (a :: (r ++ [k])).Nodup
  refine List.nodup_cons.mpr ⟨fun m => ?_, UK h2 fun m => hk (List.mem_cons.mpr (Or.inr m))⟩
  rcases List.mem_append.mp m with q | q
  ·exact h1 q
  ·exact hk (List.mem_cons.mpr (Or.inl (List.mem_singleton.mp q).symm))
theorem Ul {p : κ × V} {r : List (κ × V)} {k : κ} (e : p.1 = k) : Dd (p :: r) k = Dd r k := by
 unfold Dd
 rw [List.filter_cons, if_neg (by simp [e])]
theorem VQ {p : κ × V} {r : List (κ × V)} {k : κ} (e : ¬ p.1 = k) : Dd (p :: r) k = p :: Dd r k := by
 unfold Dd
 rw [List.filter_cons, if_pos (by simp [e])]
end
theorem Kg : bootBuiltins "abs" = some (.builtin "abs") := by decide +kernel
theorem Ap : bootBuiltins "len" = some (.builtin "len") := by decide +kernel
theorem Br : bootBuiltins "isinstance" = some (.builtin "isinstance") := by decide +kernel
theorem RG : bootBuiltins "max" = some (.builtin "max") := by decide +kernel
theorem WO : bootBuiltins "min" = some (.builtin "min") := by decide +kernel
theorem Q9 : bootBuiltins "int" = some (.type "int") := by decide +kernel
theorem XN : bootBuiltins "bool" = some (.type "bool") := by decide +kernel
theorem N7 : bootBuiltins "tuple" = some (.type "tuple") := by decide +kernel
theorem Ig : bootBuiltins "list" = some (.type "list") := by decide +kernel
noncomputable def Sm (i : Int) : Prop := i.natAbs < 2 ^ 4000
theorem Sm.of {i : Int} {n : Nat} (h : i.natAbs ≤ n) (hn : n < 2 ^ 4000) : Sm i := Nat.lt_of_le_of_lt h hn
theorem Sm.bits {i : Int} (h : Sm i) : Builtin.Int.intBits i ≤ 2 ^ 20 := by
 unfold Builtin.Int.intBits
 split
 ·exact Nat.zero_le _
 ·have hn : i.natAbs < 2 ^ 4000 := h
  have : i.natAbs.log2 < 4000 := by
   rcases Nat.eq_zero_or_pos i.natAbs with h0 | hp
   ·rw [h0]; decide
   ·exact (Nat.log2_lt (Nat.ne_of_gt hp)).mpr hn
  have h20 : (4000 : Nat) ≤ 2 ^ 20 := by decide
  lia
theorem Sm.log {i : Int} (h : Sm i) : i.natAbs.log2 < 9000 := by
 have hn : i.natAbs < 2 ^ 4000 := h
 rcases Nat.eq_zero_or_pos i.natAbs with h0 | hp
 ·rw [h0]; decide
 ·exact Nat.lt_trans ((Nat.log2_lt (Nat.ne_of_gt hp)).mpr hn) (by decide)
section
variable {X : Cx}
theorem Bm : OpR X (binaryOp .Mult) (rI (fun i j => Sm i ∧ Sm j) fun i j => .int (i * j)) := opI fun _ _ _ _ _ _ _ hc q => mul_int q (.of_bits hc.1.bits hc.2.bits)
theorem Rw : OpR X (binaryOp .FloorDiv) (rI (fun _ j => j ≠ 0 ∧ Sm j) fun i j => .int (i.fdiv j)) := opI fun _ _ _ _ _ _ _ hc q => floordiv_int hc.1 q (.inl (PyProof.noPylong_of_log2 hc.2.log))
theorem Wn : OpR X (binaryOp .FloorDiv) (rI (fun _ j => 0 < j ∧ Sm j) fun i j => .int (i / j)) := opI fun i j _ _ _ _ _ hc q => by
 have h1 : (0 : Int) < j := hc.1
 exact floordiv_int (by lia) (by rw [Int.fdiv_eq_ediv_of_nonneg i (by lia)]; exact q) (.inl (PyProof.noPylong_of_log2 hc.2.log))
theorem CU : B1 X (.builtin "isinstance") (fun xs H Q => ∃ x n t b, xs = [x, .ty n] ∧ GH X.K H x t ∧ PySem.W.kitOne X.K t (.type n) = some b ∧ Q (.bl b) H) := by
 intro pins s σ H xs us Q I r h
 obtain ⟨x, n, t, b, rfl, ty, e, q⟩ := h
 obtain ⟨u, w', rfl, r1, r2⟩ := vals2 r
 cases (show w' = Value.type n from r2)
 exact U4 I r1 ty e fun tk => ⟨.bl b, H, I.tok tk, rfl, q⟩
end
structure D (K : PySem.W.Frag) (mg : Str → Option Value) (x : Str) (st : Stmt) (ps : List Str) (f : Addr) (fd : FuncData) : Prop where
 F : Fun K x x st f fd
 m : mg x = some (.ref f)
 b : Binds K fd ps []
section
variable {X : Cx} {st : Stmt} {rest : List Stmt} {t u : TS}
theorem Km {t u : TS} {D : Ip} {σ : St} {H : Hp} (h : ∀ M : St → Hp → Prop, (∀ σ' H', u D σ' H' → M σ' H') → t { D with nx := M } σ H) : SG t u D σ H := h _ fun _ _ z => z
noncomputable def tCut (t u : TS) : TS := fun D σ H => ∃ M : St → Hp → Prop, t { D with nx := M } σ H ∧ ∀ σ' H', M σ' H' → u D σ' H'
theorem BY (h1 : PS X st t) (h2 : PSs X rest u) : PSs X (st :: rest) (tCut t u) := by
 intro pins s σ H D I h
 obtain ⟨M, h, hM⟩ := h
 refine wpAny_execs_cons (thn (h1 pins s σ H _ I h) fun f s1 q => ?_)
 cases f with
 | next =>
  obtain ⟨σ', H', I', q⟩ := q
  exact h2 pins s1 σ' H' D I' (hM σ' H' q)
 | ret v => exact q
 | brk => exact q
 | cont => exact q
end
theorem cxK {CX : CXT} {P : Program} {w : World} {K : PySem.W.Frag} {mg : Str → Option Value} {base : Heap} {N : List Str} {qual : Str} {scope : Scope} {f : Addr} {cd : Value} {A : Around} {outer : List Env} {s : Shared} {H : Hp} {E : XK} :
 (Fd CX P w K mg base N qual scope f cd A outer s H E).K = K := rfl
theorem MM : Int.natAbs 10 = 10 := rfl
theorem QG : Int.natAbs 2 = 2 := rfl
theorem A4 {H : Hp} {p : PySem.Addr} {o : HO} (hp : H p = none) : AI H (upd H p o) := fun b u e => by
 rw [AN (An e hp)]; exact e
theorem AI.tup {K : PySem.W.Frag} {H H' : Hp} {a : PySem.Addr} {xs : List V} (e : AI H H') (h : SqT K H a xs) : SqT K H' a xs := by
 rcases h with (h | ⟨o, h⟩) | h
 ·exact .inl (.inl (e _ _ h))
 ·exact .inl (.inr ⟨o, e _ _ h⟩)
 ·exact .inr h
section
variable {X : Cx} {es : List Expr} {t : TA} {pos : Pos}
noncomputable def JM (t : TA) : TE := fun σ H Q => t σ H fun xs H1 => xs.length ≤ sizeLine ∧ ∀ p H', H1 p = none → AI H1 H' → H' p = some (.tup xs) → Q (.ref p) H'
noncomputable def Ja (t : TA) : TE := fun σ H Q => t σ H fun xs H1 => xs.length ≤ sizeLine ∧ ∀ p H', H1 p = none → AI H1 H' → H' p = some (.lst xs) → Q (.ref p) H'
theorem Ai {x1} (h : PA X es t) : PE X (.Tuple es x1 pos) (JM t) := by
 intro pins s σ H Q I hq
 refine wpAny_Tuple_spliced (thn (h pos pins s σ H _ I hq) fun us s1 ⟨xs, H1, I1, r, z, q⟩ => ⟨by rw [← r.length]; exact z, ?_⟩)
 have hf : H1 s1.heap.objs.size = none := I1.hok.fresh (Nat.le_refl _)
 refine ⟨.ref s1.heap.objs.size, upd H1 s1.heap.objs.size (.tup xs), I1.laid (t' := s1.toks) (fun b u e => Heap.get?_push_of_some _ e) (Nat.le_refl _) ?_, rfl, q _ _ hf (A4 hf) AQ⟩
 exact ⟨z, us, r, ⟨_, Heap.get?_push_size _ rfl, rfl, _, rfl⟩⟩
theorem Ae (h : PA X es t) : PE X (.List es pos) (Ja t) := by
 intro pins s σ H Q I hq
 refine wpAny_List_spliced (thn (h pos pins s σ H _ I hq) fun us s1 ⟨xs, H1, I1, r, z, q⟩ => ⟨by rw [← r.length]; exact z, ?_⟩)
 have hf : H1 s1.heap.objs.size = none := I1.hok.fresh (Nat.le_refl _)
 refine ⟨.ref s1.heap.objs.size, upd H1 s1.heap.objs.size (.lst xs), I1.laid (t' := s1.toks) (fun b u e => Heap.get?_push_of_some _ e) (Nat.le_refl _) ?_, rfl, q _ _ hf (A4 hf) AQ⟩
 exact ⟨z, us, 0, r, Heap.get?_push_size _ rfl⟩
end
theorem AI.get {H H' : Hp} (s : AI H H') {b : PySem.Addr} {o : HO} (h : H b = some o) : H' b = some o := s b o h
theorem Li {α : Sort _} {p q : α → Prop} (w : α) (h1 : p w) (h2 : q w) : ∃ x, p x ∧ q x := ⟨w, h1, h2⟩
theorem exOrL {α : Sort _} {p p' q : α → Prop} (w : α) (h1 : p w) (h2 : q w) : ∃ x, (p x ∨ p' x) ∧ q x := ⟨w, .inl h1, h2⟩
theorem exOrR {α : Sort _} {p p' q : α → Prop} (w : α) (h1 : p' w) (h2 : q w) : ∃ x, (p x ∨ p' x) ∧ q x := ⟨w, .inr h1, h2⟩
section
variable {X : Cx}
theorem OpR.weak {f : Value → Value → Sem Value} {r r' : R2} (h : OpR X f r) (m : ∀ x y H Q, r' x y H Q → r x y H Q) : OpR X f r' :=
 fun pins s σ H x y v u Q I rx ry q => h pins s σ H x y v u Q I rx ry (m x y H Q q)
theorem B1.weak {f : Value} {r r' : List V → Hp → VK → Prop} (h : B1 X f r) (m : ∀ xs H Q, r' xs H Q → r xs H Q) : B1 X f r' :=
 fun pins s σ H xs us Q I rx q => h pins s σ H xs us Q I rx (m xs H Q q)
noncomputable def JR : R2 := fun x y H Q => ∃ l b, x = .ref l ∧ y = .ref b ∧ ∃ xs, H l = some (.lst xs) ∧ ∃ zs, H b = some (.lst zs) ∧ xs.length + zs.length ≤ sizeLine ∧ ∀ p H', H p = none → AI H H' → H' p = some (.lst (xs ++ zs)) → Q (.ref p) H'
theorem Lw : OpR X (binaryOp .Add) JR := Zx.weak fun _ _ _ _ ⟨l, b, e1, e2, xs, h1, zs, h2, h3, q⟩ => ⟨l, b, xs, zs, e1, e2, h1, h2, h3, fun p hp => q p _ hp (A4 hp) AQ⟩
noncomputable def Dh (K : PySem.W.Frag) : List V → Hp → VK → Prop := fun xs H Q => ∃ p, xs = [.ref p] ∧ ∃ ys, SqL K H p ys ∧ ∀ l H', H l = none → AI H H' → H' l = some (.tup ys) → Q (.ref l) H'
noncomputable def DD (K : PySem.W.Frag) : List V → Hp → VK → Prop := fun xs H Q => ∃ p, xs = [.ref p] ∧ ∃ ys, (SqL K H p ys ∨ SqT K H p ys) ∧ ∀ l H', H l = none → AI H H' → H' l = some (.lst ys) → Q (.ref l) H'
theorem Dk : B1 X (.type "list") (DD X.K) := Ql.weak fun _ _ _ ⟨p, e, ys, h, q⟩ => ⟨p, ys, e, h, fun l hl => q l _ hl (A4 hl) AQ⟩
end
noncomputable def Md (i : Int) : Prop := i.natAbs ≤ 10 ^ 60
theorem Md.sm {i : Int} (h : Md i) : Sm i := Sm.of h (by decide +kernel)
theorem Md.mul {i j : Int} (h : Md i) (g : Md j) : (i * j).natAbs ≤ 10 ^ 120 := by
 rw [Int.natAbs_mul]; exact Nat.le_trans (Nat.mul_le_mul h g) (by decide +kernel)
theorem Md.mulS {i j : Int} (h : Md i) (g : Md j) : Sm (i * j) := Sm.of (h.mul g) (by decide +kernel)
theorem To {c A B : Prop} [Decidable c] (hc : ¬ c) (h : B) : if c then A else B := by rw [if_neg hc]; exact h
theorem aN {c A B : Prop} [Decidable c] (hc : c) (h : A) : if c then A else B := by rw [if_pos hc]; exact h
theorem Z3 {H H' : Hp} (h : AI H H') : True := trivial
section
variable {X : Cx}
theorem Mo : B1 X (.type "int") (fun xs H Q => ∃ k, xs = [.bl k] ∧ Q (.int (if k = true then 1 else 0)) H) := Up.weak fun _ _ _ ⟨k, e, q⟩ => .inr ⟨k, e, by cases k <;> exact q⟩
end
theorem CQ {a b : Int} {m n : Nat} (ha : a.natAbs ≤ m) (hb : b.natAbs ≤ n) : (a * b).natAbs ≤ m * n := by
 rw [Int.natAbs_mul]; exact Nat.mul_le_mul ha hb
theorem atL2 {x y e : Int} (h0 : 0 ≤ e) (h1 : e < 2) : ∃ v : Int, atI [V.int x, V.int y] e = some (V.int v) ∧ (v = x ∨ v = y) := by
 rcases (by lia : e = 0 ∨ e = 1) with rfl | rfl
 ·exact ⟨x, rfl, .inl rfl⟩
 ·exact ⟨y, rfl, .inr rfl⟩
theorem atL4 {x y z t e : Int} (h0 : 0 ≤ e) (h1 : e < 4) : ∃ v : Int, atI [V.int x, V.int y, V.int z, V.int t] e = some (V.int v) ∧ (v = x ∨ v = y ∨ v = z ∨ v = t) := by
 rcases (by lia : e = 0 ∨ e = 1 ∨ e = 2 ∨ e = 3) with rfl | rfl | rfl | rfl
 ·exact ⟨x, rfl, .inl rfl⟩
 ·exact ⟨y, rfl, .inr (.inl rfl)⟩
 ·exact ⟨z, rfl, .inr (.inr (.inl rfl))⟩
 ·exact ⟨t, rfl, .inr (.inr (.inr rfl))⟩
end L2
set_option maxHeartbeats 4000000
namespace L2
open PySem PySem.Spec PyProof.Rows
section
variable {prog : Program} {w : World} {A : Around} {R : Result → Shared → Prop} {s : Shared}
theorem RW {elt target iter : Expr} {ifs : List Expr} {scope : Scope} {pos : Pos} {it acc : Value} {env : Env} (I : Nat → Shared → Prop) {N : Value → Shared → Prop} (hN : N = notedBy (model prog w) A env fun e s' => R (.error e) s')
  (turn : ∀ n s, I n s → wpAny (model prog w) A (pyNext it) (fun r s₁ => match r with
   | none => R (.ok .next) s₁
   | some v => wpAny (model prog w) A (letOwnedTupleGo target it v) (fun _ s₁' => wpAny (model prog w) A (assign target env v) (fun _ s₂ =>
     wpAny (model prog w) A (forIn ifs true fun c r => if r = true then do let ok ← isTrue c env (eval c env); pure (ForInStep.yield ok) else pure (ForInStep.yield r)) (fun ok s₃ =>
      if ok = true then wpAny (model prog w) A (eval elt env) (fun x s₄ => wpAny (model prog w) A (call (.builtin "list.append") [acc, x]) (fun _ s₅ => ∃ m, m < n ∧ I m s₅) N s₄) N s₃
      else ∃ m, m < n ∧ I m s₃) N s₂) N s₁') N s₁) N s)
  (n : Nat) (h : I n s) : codeAny (model prog w) A (.compLoop (.ListComp elt [⟨target, iter, ifs, 0⟩] scope pos) 0 it acc env) R s := by
 subst hN
 refine codeAny_loop rfl I (fun n s hI => ?_) n h
 show wpAny _ A ((compTurn (.ListComp elt [⟨target, iter, ifs, 0⟩] scope pos) 0 it acc env).onRaise (fun x => do noteFrame x env; theTreesLotGoes x)) _ _ s
 refine wpAny_noted ?_
 rw [compTurn_list]
 refine wpAny_bind (wpAny_standAt (wpAny_bind (wpAny_mono (turn n s hI) (fun r s₁ h₁ => ?_) fun _ _ h' => h')))
 cases r with
 | none => exact wpAny_pure h₁
 | some v =>
  refine wpAny_bind (wpAny_mono h₁ (fun _ s₁' h₁' => ?_) fun _ _ h' => h')
  refine wpAny_bind (wpAny_mono h₁' (fun _ s₂ h₂ => wpAny_bind (wpAny_mono h₂ (fun ok s₃ h₃ => ?_) fun _ _ h' => h')) fun _ _ h' => h')
  cases ok with
  | false => exact wpAny_pure ⟨rfl, h₃⟩
  | true =>
   exact wpAny_bind (wpAny_bind (wpAny_mono h₃ (fun x s₄ h₄ => wpAny_bind (wpAny_mono h₄ (fun _ s₅ h₅ => wpAny_pure (wpAny_pure ⟨rfl, h₅⟩)) fun _ _ h' => h')) fun _ _ h' => h'))
end
noncomputable def Bu (X : Cx) (sc : Scope) (cl : List (Str × Addr)) (N : List Str) (C : Addr) (s : Shared) (H : Hp) (ex : List Addr) : Cx :=
 { X with N := N, s₀ := s, H₀ := H, env := compEnvC sc cl C X.env, outer := X.stack, stack := X.stack, ex := ex, fn := fun _ => false, pn := [], xe := fun _ _ => False }
noncomputable def Bj (X : Cx) (caps : List Str) : List (Str × Addr) := caps.map fun n => (n, (X.env.cells.lookup n).getD 0)
noncomputable def E5 (σ : St) (ix : List Nat) : St := ix.map fun i => (σ[i]?).join
structure BI (X : Cx) (sc : Scope) (x : Str) (caps : List Str) (ix : List Nat) : Prop where
 kind : sc.kind = .function
 nocell : ∀ y ∈ sc.names, y.2 ≠ .cell
 names : ∀ y ∈ sc.names, y.2 = .local → sc.names.lookup y.1 = some .local
 free : ∀ y ∈ sc.names, y.2 = .free → y.1 ∈ caps
 hx : sc.names.lookup x = some .local
 nd : (x :: caps).Nodup
 clos : closureFor sc X.env = pure (Bj X caps)
 cap : caps.map X.env.kindOf = caps.map fun _ => some NameKind.cell
 rl : (caps.map fun n => (relabel sc X.env).names.lookup n) = caps.map fun _ => some NameKind.cell
 slots : (ix.map fun i => X.N[i]?) = caps.map some
theorem RK {α β : Type} {f g : α → β} {l : List α} (h : l.map f = l.map g) {a : α} (ha : a ∈ l) : f a = g a := by
 induction l with
 | nil => exact absurd ha (by simp)
 | cons b r ih =>
  rw [List.map_cons, List.map_cons, List.cons.injEq] at h
  rcases List.mem_cons.mp ha with rfl | ha
  ·exact h.1
  ·exact ih h.2 ha
theorem LC {X : Cx} : ∀ {caps : List Str} {n : Str} {c : Addr}, (Bj X caps).lookup n = some c → n ∈ caps ∧ c = (X.env.cells.lookup n).getD 0
 | [], _, _, h => by simp [Bj] at h
 | a :: r, n, c, h => by
  have h : List.lookup n ((a, (X.env.cells.lookup a).getD 0) :: Bj X r) = some c := h
  rw [List.lookup_cons] at h
  cases e : n == a with
  | true =>
   rw [e] at h
   have e' : n = a := by simpa using e
   subst e'
   exact ⟨List.mem_cons_self, (Option.some.inj h).symm⟩
  | false =>
   rw [e] at h
   obtain ⟨h1, h2⟩ := LC h
   exact ⟨List.mem_cons_of_mem _ h1, h2⟩
theorem Mj {X : Cx} : ∀ {caps : List Str} {n : Str}, n ∈ caps → ∃ c, (Bj X caps).lookup n = some c
 | [], _, h => absurd h (by simp)
 | a :: r, n, h => by
  show ∃ c, List.lookup n ((a, (X.env.cells.lookup a).getD 0) :: Bj X r) = some c
  rw [List.lookup_cons]
  cases e : n == a with
  | true => exact ⟨_, rfl⟩
  | false =>
   have ne : n ≠ a := by simpa using e
   exact Mj ((List.mem_cons.mp h).resolve_left ne)
section
variable {X : Cx} {pins : List (Addr × Obj)} {σ : St} {H : Hp} {s : Shared} {sc : Scope} {x : Str} {caps : List Str} {ix : List Nat}
theorem BI.cell {n : Str} {c : Addr} (S : BI X sc x caps ix) (ok : X.Ok) (h : (Bj X caps).lookup n = some c) : n ∈ caps ∧ X.env.cells.lookup n = some c := by
 obtain ⟨h1, h2⟩ := LC h
 obtain ⟨c', e⟩ := ok.has n (.inl (RK S.cap h1))
 refine ⟨h1, ?_⟩
 rw [h2, e]; rfl
theorem BI.isCap (S : BI X sc x caps ix) {y : Str} (h : (relabel sc X.env).names.lookup y = some .cell ∨ (relabel sc X.env).names.lookup y = some .free) : y ∈ caps := by
 have key : ∀ k, (relabel sc X.env).names.lookup y = some k → k = .cell ∨ k = .free → y ∈ caps := fun k hk hk2 => by
  have hm := PySem.mem_of_lookup hk
  obtain ⟨⟨n, k'⟩, hn, e⟩ := List.mem_map.mp (show (y, k) ∈ sc.names.map _ from hm)
  dsimp only at e
  split at e
  ·rename_i hc
   have hk' : k' = .free := by
    simp only [Bool.and_eq_true, beq_iff_eq] at hc
    exact hc.1.1
   injection e with e1 e2
   subst e1
   exact S.free _ hn hk'
  ·injection e with e1 e2
   subst e1 e2
   rcases hk2 with rfl | rfl
   ·exact absurd rfl (S.nocell _ hn)
   ·exact S.free _ hn rfl
 rcases h with h | h
 ·exact key _ h (.inl rfl)
 ·exact key _ h (.inr rfl)
theorem BI.ok (S : BI X sc x caps ix) (I : Inv X pins σ H s) {fp : List Addr} {C : Addr} (hC : s.heap.objs.size ≤ C) (hf : ∀ b ∈ fp, NT X pins H b) (hb : ∀ b ∈ fp, b < s.heap.objs.size) :
  (Bu X sc (Bj X caps) (x :: caps) C s H fp).Ok where
 mod := I.ok.mod
 kind := S.kind
 glob := I.ok.glob
 blt := I.ok.blt
 above := hC
 inj := fun y z c h1 h2 => I.ok.inj y z c (S.cell I.ok h1).2 (S.cell I.ok h2).2
 has := fun y hy => Mj (S.isCap hy)
 cab := fun _ _ h => absurd h (by intro z; cases z)
 hd := I.ok.hd
 frames := I.ok.frames
 stk := .inl rfl
 exf := fun b hbf => ⟨Nat.ne_of_lt (Nat.lt_of_lt_of_le (hb b hbf) hC), fun y c h => (hf b hbf).2.2.2.2.1 y c (S.cell I.ok h).2⟩
 bs := I.bs
 bsz := Nat.le_trans I.ok.bsz I.sz
 noex := fun b o e hbf => by
  rcases (hf b hbf).2.2.2.1 with z | z
  ·exact I.ok.noex b o e z
  ·exact absurd (Nat.lt_of_lt_of_le (Heap.lt_size (I.ok.bs b o e).1) z) (Nat.lt_irrefl _)
 exfs := fun b hbf hm => by
  rcases List.mem_cons.mp (I.stkSub b hm) with z | z
  ·exact (hf b hbf).2.1 z
  ·exact (hf b hbf).2.2.1 z
 funs := I.stack
 frf := I.stkFree
theorem Vd (S : BI X sc x caps ix) : (E5 σ ix).length = caps.length := by
 have := congrArg List.length S.slots
 simpa [E5] using this
theorem UI : ∀ {ix : List Nat} {caps : List Str} {N : List Str} {k : Nat} {n : Str}, (ix.map fun i => N[i]?) = caps.map some → caps[k]? = some n → ∃ i, ix[k]? = some i ∧ N[i]? = some n
 | [], [], _, _, _, _, h => by simp at h
 | [], _ :: _, _, _, _, h, _ => by simp at h
 | _ :: _, [], _, _, _, h, _ => by simp at h
 | i :: ix, a :: caps, N, 0, n, h, e => by
  rw [List.map_cons, List.map_cons, List.cons.injEq] at h
  simp at e; subst e
  exact ⟨i, rfl, h.1⟩
 | i :: ix, a :: caps, N, k + 1, n, h, e => by
  rw [List.map_cons, List.map_cons, List.cons.injEq] at h
  obtain ⟨j, h1, h2⟩ := UI (k := k) h.2 (by simpa using e)
  exact ⟨j, by simpa using h1, h2⟩
theorem BI.start (S : BI X sc x caps ix) (I : Inv X pins σ H s) {fp : List Addr} {C D : Addr} {h' : Heap} {m : Str → Option Value} {tk : Nat} (hf : ∀ b ∈ fp, NT X pins H b) (hb : ∀ b ∈ fp, b < s.heap.objs.size)
  (hD : s.heap.objs.size ≤ D) (hC : s.heap.objs.size ≤ C) (hDC : D ≠ C) (k : ∀ b o, s.heap.get? b = some o → h'.get? b = some o) (hd : h'.get? D = some { cls := .type "list", data := .seq #[] 0 }) (hn : h'.Ns C m) :
  Inv (Bu X sc (Bj X caps) (x :: caps) C s H fp) [] (none :: E5 σ ix) (upd H D (.lst [])) { s with heap := h', toks := tk } where
 ok := S.ok I hC hf hb
 os := rfl
 bare := I.bare
 base := Un.laid k hD (I.hok.fresh hD)
 loc := by
  refine ⟨m, hn, fun i y v h1 h2 _ => ?_⟩
  cases i with
  | zero => simp at h2
  | succ i =>
   have h1 : caps[i]? = some y := by simpa [Bu] using h1
   have h2 : (E5 σ ix)[i]? = some (some v) := by simpa using h2
   obtain ⟨j, e1, e2⟩ := UI S.slots h1
   have h3 : σ[j]? = some (some v) := by
    unfold E5 at h2
    rw [List.getElem?_map, e1] at h2
    have h2 : (σ[j]?).join = some v := by simpa using h2
    cases q : σ[j]? with
    | none => rw [q] at h2; cases h2
    | some o => rw [q] at h2; cases o with
     | none => cases h2
     | some u => cases h2; rfl
   have hy : y ∈ caps := List.mem_of_getElem? h1
   obtain ⟨m0, hn0, hl0⟩ := I.loc
   obtain ⟨u, r, l⟩ := hl0 j y v e2 h3 (.inr (.inl (RK S.cap hy)))
   refine ⟨u, r, .inr ⟨.inl (RK S.rl hy), ?_⟩⟩
   rcases l with ⟨z, _⟩ | ⟨_, c, hc, hcell⟩
   ·have z2 : X.env.kindOf y = some .cell := RK S.cap hy
    rw [z] at z2; cases z2
   ·obtain ⟨c', hc'⟩ := Mj (X := X) hy
    have := (S.cell I.ok hc').2
    rw [hc] at this; cases this
    obtain ⟨o, ho, hdt⟩ := hcell
    exact ⟨c, hc', o, k _ _ ho, hdt⟩
 cell := fun y c h => by
  obtain ⟨v, o, ho, hdt⟩ := I.cell y c (S.cell I.ok h).2
  exact ⟨v, o, k _ _ ho, hdt⟩
 free := by
  show upd H D (.lst []) C = none
  rw [AN (Ne.symm hDC)]; exact I.hok.fresh hC
 freeC := fun y c h => by
  have h2 := (S.cell I.ok h).2
  obtain ⟨v, o, ho, _⟩ := I.cell y c h2
  rw [AN (Nat.ne_of_lt (Nat.lt_of_lt_of_le (Heap.lt_size ho) hD))]
  exact I.freeC y c h2
 pin := fun p hp => absurd (show p ∈ ([] : List (Addr × Obj)) from hp) (by simp)
 hok := I.hok.laid k hD ⟨Nat.zero_le _, [], 0, .nil, hd⟩
 len := by
  show (none :: E5 σ ix).length = (x :: caps).length
  rw [List.length_cons, List.length_cons, Vd S]
theorem BI.back (S : BI X sc x caps ix) (I : Inv X pins σ H s) {fp : List Addr} {C : Addr} {ps : List (Addr × Obj)} {σ' : St} {H' : Hp} {s' : Shared} {h'' : Heap} (hf : ∀ b ∈ fp, NT X pins H b) (hC : s.heap.objs.size ≤ C)
  (I' : Inv (Bu X sc (Bj X caps) (x :: caps) C s H fp) ps σ' H' s') (hs : Heap.SameBut C s'.heap h'') : Inv X pins σ H' { s' with heap := h'' } := by
 have J : Inv X pins σ H' s' := I.call' (ch := fp) I'.os I'.base I'.hok I'.bare fun b hb => ⟨(hf b hb).2.2.2.1, (hf b hb).2.1, (hf b hb).2.2.2.2.1, (hf b hb).2.2.2.2.2⟩
 refine J.turned (t' := s'.toks) (it := C) (fun b o hb e => (hs.2 b hb).trans e) I'.free ?_ (.inr (Nat.le_trans I.sz hC)) (fun y c h z => ?_) fun p hp z => ?_
 ·exact Nat.ne_of_gt (Nat.lt_of_lt_of_le I.lt hC)
 ·obtain ⟨v, o, ho, _⟩ := I.cell y c h
  exact absurd (Nat.lt_of_lt_of_le (Heap.lt_size ho) (z ▸ hC)) (Nat.lt_irrefl _)
 ·obtain ⟨e, _⟩ := I.pin p hp
  exact absurd (Nat.lt_of_lt_of_le (Heap.lt_size e) (z ▸ hC)) (Nat.lt_irrefl _)
end
noncomputable def PTs (X : Cx) (ifs : List Expr) (tc : TT) : Prop :=
 ∀ (pins : List (Addr × Obj)) (s : Shared) (σ : St) (H : Hp) (Q : Bool → Hp → Prop), Inv X pins σ H s → tc σ H Q →
  wpAny (model X.prog X.w) X.A (forIn ifs true fun c r => if r = true then do let ok ← isTrue c X.env (eval c X.env); pure (ForInStep.yield ok) else pure (ForInStep.yield r)) (TP X pins σ Q) X.xe s
noncomputable def G8 : TT := fun _ H Q => Q true H
theorem Ik {X : Cx} : PTs X [] G8 := fun _ _ _ H _ I h => wpAny_tests_nil ⟨H, I, h⟩
theorem NX {X : Cx} {c : Expr} {t : TT} (h : PT X c t) : PTs X [c] t := fun pins s σ H Q I q => wpAny_tests_one (h pins s σ H Q I q)
noncomputable def Gr (te : TE) (tc : TT) (caps : St) (J : It) (D : Addr) (H1 : Hp) (Q : Hp → Prop) : Prop :=
 ∃ W : Nat → Nat → List V → Hp → Prop, (∃ m, W 0 m [] (upd H1 D (.lst []))) ∧ ∀ i m ys H, W i m ys H →
  (J.stop i H ∧ Q H) ∨ (J.go i H ∧ ∀ v H', J.yld i H v H' → tc (some v :: caps) H' fun b H2 =>
   if b = true then te (some v :: caps) H2 fun y H3 => H3 D = some (.lst ys) ∧ ys.length < sizeLine ∧ ∃ m', m' < m ∧ W (i + 1) m' (ys ++ [y]) (upd H3 D (.lst (ys ++ [y])))
   else ∃ m', m' < m ∧ W (i + 1) m' ys H2)
noncomputable def Hb (wi : TI) (te : TE) (tc : TT) (ix : List Nat) : TE := fun σ H Q => wi σ H fun J H1 => ∀ D, H1 D = none → Gr te tc (E5 σ ix) J D H1 fun H' => Q (.ref D) H'
theorem DF {M : Model} {A : Around} {α : Type} {t : Sem α} {Q : α → Shared → Prop} {E : Value → Shared → Prop} {s : Shared} (h : wpAny M A t Q (fun _ _ => False) s) : wpAny M A t Q E s := wpAny_mono h (fun _ _ q => q) fun _ _ z => z.elim
section
variable {X : Cx} {pins : List (Addr × Obj)} {σ : St} {H : Hp} {s : Shared} {sc : Scope} {x : Str} {caps : List Str} {ix : List Nat}
theorem Ni {elt iter : Expr} {px pos : Pos} {ifs : List Expr} {te : TE} {tc : TT} {J : It} {fp : List Addr} {it : Addr} {tn : Nat → Heap → Prop} {QH : Addr → Hp → Prop} {RR : Value → Addr → Result → Shared → Prop} {E : Value → Shared → Prop}
  (hc : X.calm = true) (S : BI X sc x caps ix) (he : ∀ C s H ex, PE (Bu X sc (Bj X caps) (x :: caps) C s H ex) elt te) (ht : ∀ C s H ex, PTs (Bu X sc (Bj X caps) (x :: caps) C s H ex) ifs tc)
  (I : Inv X pins σ H s) (T : Um X.prog X.w X.K (.Name x px) J fp it tn) (st : tn 0 s.heap) (hf : ∀ b ∈ fp, NT X pins H b) (h : ∀ D, H D = none → Gr te tc (E5 σ ix) J D H (QH D))
  (hRR : ∀ D C (ps : List (Addr × Obj)) σ' H' s', s.heap.objs.size ≤ C → Inv (Bu X sc (Bj X caps) (x :: caps) C s H fp) ps σ' H' s' → QH D H' → RR (.ref D) C (.ok .next) s') :
  wpAny (model X.prog X.w) X.A (newList []) (fun acc s₃ => wpAny (model X.prog X.w) X.A (newFunctionEnv sc X.env.globals (Bj X caps) [] X.env.qual none .none (some X.env)) (fun cenv s₄ =>
   codeAny (model X.prog X.w) X.A (.compStart (.ListComp elt [⟨.Name x px, iter, ifs, 0⟩] sc pos) 0 (.ref it) acc { cenv with scope := relabel sc X.env }) (RR acc cenv.locals) s₄) E s₃) E s := by
 refine wpAny_newObj_type (wpAny_newFunctionEnv S.nocell (by intro y hy; simp at hy) (fun h₁ hns₁ hsb₁ => ?_) S.kind)
 dsimp only at hns₁ hsb₁ ⊢
 generalize hH2 : s.heap.push { cls := .type "list", dict := none, data := .seq ([] : List Value).toArray } = H2 at hns₁ hsb₁ ⊢
 have hC : H2.objs.size = s.heap.objs.size + 1 := by rw [← hH2, Heap.size_push]
 have hDC : s.heap.objs.size ≠ H2.objs.size := by rw [hC]; exact Nat.ne_of_lt (Nat.lt_succ_self _)
 have hCle : s.heap.objs.size ≤ H2.objs.size := by rw [hC]; exact Nat.le_succ _
 have below : ∀ b, b < s.heap.objs.size → b ≠ H2.objs.size := fun b hb => by rw [hC]; exact Nat.ne_of_lt (Nat.lt_succ_of_lt hb)
 have old : ∀ b o, s.heap.get? b = some o → h₁.get? b = some o := fun b o e => hsb₁.extBut b o (below b (Heap.lt_size e)) (Heap.get?_push_of_some _ (hH2 ▸ Heap.get?_push_of_some _ e))
 have hacc : h₁.get? s.heap.objs.size = some { cls := .type "list", data := .seq #[] 0 } := hsb₁.extBut _ _ hDC (Heap.get?_push_of_some _ (hH2 ▸ Heap.get?_push_size _ rfl))
 have hb : ∀ b ∈ fp, b < s.heap.objs.size := fun b hbf => by obtain ⟨o, e, _⟩ := T.obj _ _ st b hbf; exact Heap.lt_size e
 have I1 := S.start (tk := s.toks + ([] : List (Str × Value)).length) I hf hb (Nat.le_refl _) hCle hDC old hacc hns₁
 obtain ⟨W, ⟨m0, w0⟩, turn⟩ := h _ (I.hok.fresh (Nat.le_refl _))
 have stat : ∀ {H' : Hp}, (∀ b ∈ fp, H' b = none) → ∀ b ∈ fp, NT (Bu X sc (Bj X caps) (x :: caps) H2.objs.size s H fp) [] H' b := fun {H'} hn b hbf =>
  ⟨hn b hbf, (I1.ok.exf b hbf).1, I1.ok.exfs b hbf, .inl hbf, (I1.ok.exf b hbf).2, fun p hp => absurd (show p ∈ ([] : List (Addr × Obj)) from hp) (by simp)⟩
 have st1 : tn 0 h₁ := T.keep _ _ _ st fun b hbf o e => old b o e
 have fr1 : ∀ b ∈ fp, upd H s.heap.objs.size (.lst []) b = none := fun b hbf => by
  rw [AN (Nat.ne_of_lt (hb b hbf))]; exact (hf b hbf).1
 have loop : ∀ s₃ : Shared, s₃ = { s with heap := h₁, toks := s.toks + ([] : List (Str × Value)).length } →
   codeAny (model X.prog X.w) X.A (.compLoop (.ListComp elt [⟨.Name x px, iter, ifs, 0⟩] sc pos) 0 (.ref it) (.ref s.heap.objs.size) (compEnvC sc (Bj X caps) H2.objs.size X.env))
    (RR (.ref s.heap.objs.size) H2.objs.size) s₃ := by
  rintro s₃ rfl
  refine RW (fun n s' => ∃ i ys H' ov, Inv (Bu X sc (Bj X caps) (x :: caps) H2.objs.size s H fp) [] (ov :: E5 σ ix) H' s' ∧ tn i s'.heap ∧ (∀ b ∈ fp, H' b = none) ∧ W i n ys H') rfl ?_ m0 ⟨0, [], _, none, I1, st1, fr1, w0⟩
  rintro n s3 ⟨i, ys, H3, ov, I3, st3, fr3, w3⟩
  rcases turn i n ys H3 w3 with ⟨stop, q⟩ | ⟨go, step⟩
  ·refine DF (thn (T.done (Bu X sc (Bj X caps) (x :: caps) H2.objs.size s H fp) rfl rfl rfl hc i [] s3 _ H3 _ I3 (stat fr3) st3 stop) fun r s4 zq => ?_)
   obtain ⟨hr, I4⟩ := zq
   subst hr
   exact hRR _ _ _ _ _ _ hCle I4 q
  ·refine DF (thn (T.item (Bu X sc (Bj X caps) (x :: caps) H2.objs.size s H fp) rfl rfl rfl hc i [] s3 _ H3 _ I3 (stat fr3) st3 go) fun r s4 zq => ?_)
   obtain ⟨u, hr, h4⟩ := zq
   subst hr
   refine DF (thn h4 fun _ s5 zq => ?_)
   obtain ⟨v, H5, I5, r5, y5, st5, fr5⟩ := zq
   have I5' := I5.pinned (stat fr5) (T.obj _ _ st5)
   have hg : PG (Bu X sc (Bj X caps) (x :: caps) H2.objs.size s H fp) (.Name x px) (EM 0) := UH (i := 0) S.nd rfl (.inl (lookup_relabel_local S.hx)) (.inr (lookup_relabel_local S.hx))
   have again : ∀ {s7 : Shared} {H7 : Hp} {ys' : List V}, Inv (Bu X sc (Bj X caps) (x :: caps) H2.objs.size s H fp) ([] ++ Ov fp s5.heap) (some v :: E5 σ ix) H7 s7 → (∃ m', m' < n ∧ W (i + 1) m' ys' H7) →
     ∃ m, m < n ∧ ∃ i ys H' ov, Inv (Bu X sc (Bj X caps) (x :: caps) H2.objs.size s H fp) [] (ov :: E5 σ ix) H' s7 ∧ tn i s7.heap ∧ (∀ b ∈ fp, H' b = none) ∧ W i m ys H' := fun {s7 H7 ys'} I7 ⟨m', hm, w7⟩ => by
    refine ⟨m', hm, i + 1, ys', H7, some v, I7.unpinned, T.keep _ _ _ st5 fun b hb o e => (I7.pin (b, o) (List.mem_append_right _ (List.mem_append_right _ (F7 hb e)))).1, fun b hb => ?_, w7⟩
    obtain ⟨o, e, d⟩ := T.obj _ _ st5 b hb
    exact (I7.pin (b, o) (List.mem_append_right _ (List.mem_append_right _ (F7 hb e)))).2.1
   refine DF (thn (hg _ s5 _ H5 v u (fun σ' H' => σ' = some v :: E5 σ ix ∧ H' = H5) I5' r5 ⟨rfl, rfl⟩) fun _ s6 zq => ?_)
   obtain ⟨σ6, H6, I6, e6, e6'⟩ := zq
   subst e6 e6'
   refine DF (thn (ht _ _ _ _ _ s6 _ H6 _ I6 (step v H6 y5)) fun ok s7 zq => ?_)
   obtain ⟨H7, I7, q7⟩ := zq
   cases ok with
   | false => exact again I7 (by simpa using q7)
   | true =>
    rw [if_pos rfl] at q7
    rw [if_pos rfl]
    refine DF (thn (he _ _ _ _ _ s7 _ H7 _ I7 q7) fun yv s8 zq => ?_)
    obtain ⟨y, H8, I8, r8, hD8, hz8, q8⟩ := zq
    refine DF (thn (Py _ s8 _ H8 (.ref s.heap.objs.size) [y] _ [yv] (fun _ H9 => H9 = upd H8 s.heap.objs.size (.lst (ys ++ [y]))) I8 rfl (.cons r8 .nil) ⟨_, _, _, rfl, rfl, hD8, hz8, rfl⟩) fun _ s9 zq => ?_)
    obtain ⟨_, H9, I9, _, e9⟩ := zq
    subst e9
    exact again I9 q8
 exact codeAny_compStart_list (loop _ rfl) (T.self _ 0 _ _ _ st1 (loop _ rfl))
theorem turnC (I : Inv X pins σ H s) {C : Addr} (hC : s.heap.objs.size ≤ C) {σ2 : St} {H' : Hp} {s'' : Shared} {h'' : Heap} (J : Inv X pins σ2 H' s'') (hn : H' C = none) (hs : Heap.SameBut C s''.heap h'') : Inv X pins σ2 H' { s'' with heap := h'' } := by
 refine J.turned (t' := s''.toks) (it := C) (fun b o hb e => (hs.2 b hb).trans e) hn ?_ (.inr (Nat.le_trans I.sz hC)) (fun y c h z => ?_) fun p hp z => ?_
 ·exact Nat.ne_of_gt (Nat.lt_of_lt_of_le I.lt hC)
 ·obtain ⟨v, o, ho, _⟩ := I.cell y c h
  exact absurd (Nat.lt_of_lt_of_le (Heap.lt_size ho) (z ▸ hC)) (Nat.lt_irrefl _)
 ·obtain ⟨e, _⟩ := I.pin p hp
  exact absurd (Nat.lt_of_lt_of_le (Heap.lt_size e) (z ▸ hC)) (Nat.lt_irrefl _)
theorem Ii {elt iter : Expr} {px pos : Pos} {ifs : List Expr} {wi : TI} {te : TE} {tc : TT} (hc : X.calm = true) (S : BI X sc x caps ix) (hi : PI X (.Name x px) iter wi)
  (he : ∀ C s H ex, PE (Bu X sc (Bj X caps) (x :: caps) C s H ex) elt te) (ht : ∀ C s H ex, PTs (Bu X sc (Bj X caps) (x :: caps) C s H ex) ifs tc)
  (hs : ∀ x, foldedSetIterable iter X.env x = pure x := by intro _; rfl) : PE X (.ListComp elt [⟨.Name x px, iter, ifs, 0⟩] sc pos) (Hb wi te tc ix) := by
 intro pins s σ H Q I h
 rw [eval_ListComp]
 refine wpAny_comprehension_free (use := none) rfl hs S.clos S.kind S.names (thn (hi pins s σ H _ I h) fun v s1 h1 => thn h1 fun itv s2 h2 => ?_)
 obtain ⟨it, fp, tn, J, H2, e, I2, T, st2, f2, q⟩ := h2
 subst e
 refine Ni (RR := fun acc C => compPost (model X.prog X.w) X.A X.xe none (EP X pins σ Q) acc C) (QH := fun D H' => Q (.ref D) H') hc S he ht I2 T st2 f2 q ?_
 intro D C ps σ' H' s' hC I' hq
 obtain ⟨m, hn, _⟩ := I'.loc
 exact ⟨m, hn, fun h'' hs => ⟨.ref D, H', S.back I2 f2 hC I' hs, rfl, hq⟩⟩
theorem Fy {i : Nat} {y : Str} {py spos : Pos} {elt iter : Expr} {px pos : Pos} {ifs : List Expr} {wi : TI} {te : TE} {tc : TT} (hc : X.calm = true) (nd : X.N.Nodup) (hy : X.N[i]? = some y) (hl : Loc X.env.scope y) (S : BI X sc x caps ix) (hi : PI X (.Name x px) iter wi)
  (he : ∀ C s H ex, PE (Bu X sc (Bj X caps) (x :: caps) C s H ex) elt te) (ht : ∀ C s H ex, PTs (Bu X sc (Bj X caps) (x :: caps) C s H ex) ifs tc)
  (hsw : swapsWith (.ListComp elt [⟨.Name x px, iter, ifs, 0⟩] sc pos) (some (.Name y py)) spos.line X.env = pure true := by rfl)
  (hs : ∀ x, foldedSetIterable iter X.env x = pure x := by intro _; rfl) (hf : X.fn y = true ∨ X.env.scope.names.lookup y = some .local := by first | exact .inl rfl | exact .inr rfl | assumption) :
  PS X (.Assign [.Name y py] (.ListComp elt [⟨.Name x px, iter, ifs, 0⟩] sc pos) spos) (OQ (Hb wi te tc ix) (EM i)) := by
 intro pins s σ H D I h
 rw [exec_Assign_Name_used _ _ _ _ hsw]
 refine wpAny_bind (wpAny_standAt (wpAny_bind ?_))
 show wpAny _ X.A (do let _ ← comprehension (.ListComp elt [⟨.Name x px, iter, ifs, 0⟩] sc pos) sc X.env _ (newList []) false (eval iter X.env) (some (assign (.Name y py) X.env))) _ _ s
 refine wpAny_bind (wpAny_mono (wpAny_comprehension_free (use := some (assign (.Name y py) X.env)) (Q := fun _ s' => SP X pins D .next s') rfl hs S.clos S.kind S.names
  (thn (hi pins s σ H _ I h) fun v s1 h1 => thn h1 fun itv s2 h2 => ?_)) (fun _ s' hq => wpAny_pure (wpAny_pure hq)) fun _ _ e => e)
 obtain ⟨it, fp, tn, J, H2, e, I2, T, st2, f2, q⟩ := h2
 subst e
 refine Ni (RR := fun acc C => compPost (model X.prog X.w) X.A X.xe (some (assign (.Name y py) X.env)) (fun _ s' => SP X pins D .next s') acc C) (QH := fun L H' => D.nx (σ.set i (some (.ref L))) H') hc S he ht I2 T st2 f2 q ?_
 intro L C ps σ' H' s' hC I' hq
 show wpAny _ X.A (assign (.Name y py) X.env (.ref L)) _ _ s'
 have J := S.back I2 f2 hC I' (Heap.SameBut.refl ..)
 refine wpAny_assign_Name (QU (v := .ref L) (u := .ref L) J nd hy hl rfl (fun s'' I'' ⟨a, hsb, ha⟩ => ?_) hf)
 obtain ⟨m, hn, _⟩ := I'.loc
 have haC : C ≠ a := by
  rcases ha with z | z
  ·rw [z]; exact Nat.ne_of_gt (Nat.lt_of_lt_of_le I2.lt hC)
  ·obtain ⟨v, o, ho, _⟩ := I2.cell y a z
   exact Nat.ne_of_gt (Nat.lt_of_lt_of_le (Heap.lt_size ho) hC)
 exact ⟨m, hn.sameBut hsb haC, fun h'' hs'' => ⟨_, H', turnC I2 hC I'' I'.free hs'', hq⟩⟩
end
noncomputable def Sc (n i : Nat) (ys : List V) (D : Addr) (Pv : Nat → List V → Hp → Prop) (y : V) (H3 : Hp) : Prop :=
 H3 D = some (.lst ys) ∧ ys.length < sizeLine ∧ ∃ m', m' < n - i ∧ m' = n - (i + 1) ∧ i + 1 ≤ n ∧ (ys ++ [y]).length = i + 1 ∧ Pv (i + 1) (ys ++ [y]) (upd H3 D (.lst (ys ++ [y])))
theorem Sc.of {n i : Nat} {ys : List V} {D : Addr} {Pv : Nat → List V → Hp → Prop} {y : V} {H3 : Hp} (hn : n ≤ sizeLine) (hi : i < n) (hl : ys.length = i) (h1 : H3 D = some (.lst ys)) (h2 : Pv (i + 1) (ys ++ [y]) (upd H3 D (.lst (ys ++ [y])))) : Sc n i ys D Pv y H3 :=
 ⟨h1, by lia, _, by lia, rfl, hi, by rw [List.length_append, hl]; rfl, h2⟩
theorem Px {K : PySem.W.Frag} {a : Addr} {xs : List V} {te : TE} {caps : St} {D : Addr} {H1 : Hp} {Q : Hp → Prop} (Pv : Nat → List V → Hp → Prop) (h0 : Pv 0 [] (upd H1 D (.lst []))) (hl : ∀ i ys H, i ≤ xs.length → Pv i ys H → SqL K H a xs)
  (hs : ∀ i x ys H, xs[i]? = some x → ys.length = i → Pv i ys H → te (some x :: caps) H (Sc xs.length i ys D Pv))
  (hd : ∀ ys H, ys.length = xs.length → Pv xs.length ys H → Q H) : Gr te G8 caps (Itl K a) D H1 Q := by
 refine ⟨fun i m ys H => m = xs.length - i ∧ i ≤ xs.length ∧ ys.length = i ∧ Pv i ys H, ⟨xs.length, rfl, Nat.zero_le _, rfl, h0⟩, ?_⟩
 rintro i m ys H ⟨rfl, hi, hy, p⟩
 have q := hl i ys H hi p
 by_cases hlt : i < xs.length
 ·refine .inr ⟨⟨xs, xs[i], q, by simp [hlt]⟩, fun v H' y => ?_⟩
  obtain ⟨e, y⟩ := y
  subst e
  unfold G8
  dsimp only
  rw [if_pos rfl]
  exact hs i v ys _ (y xs q) hy p
 ·have e : i = xs.length := by lia
  subst e
  exact .inl ⟨⟨xs, q, by simp⟩, hd ys H hy p⟩
theorem CA {K : PySem.W.Frag} {a : Addr} {xs : List V} {te : TE} {tc : TT} {caps : St} {D : Addr} {H1 : Hp} {Q : Hp → Prop} (Pv : Nat → List V → Hp → Prop) (h0 : Pv 0 [] (upd H1 D (.lst []))) (hl : ∀ i ys H, i ≤ xs.length → Pv i ys H → SqL K H a xs)
  (hs : ∀ i x ys H, xs[i]? = some x → Pv i ys H → tc (some x :: caps) H fun b H2 =>
   if b = true then te (some x :: caps) H2 fun y H3 => H3 D = some (.lst ys) ∧ ys.length < sizeLine ∧ ∃ m', m' < xs.length - i ∧ m' = xs.length - (i + 1) ∧ i + 1 ≤ xs.length ∧ Pv (i + 1) (ys ++ [y]) (upd H3 D (.lst (ys ++ [y])))
   else ∃ m', m' < xs.length - i ∧ m' = xs.length - (i + 1) ∧ i + 1 ≤ xs.length ∧ Pv (i + 1) ys H2)
  (hd : ∀ ys H, Pv xs.length ys H → Q H) : Gr te tc caps (Itl K a) D H1 Q := by
 refine ⟨fun i m ys H => m = xs.length - i ∧ i ≤ xs.length ∧ Pv i ys H, ⟨xs.length, rfl, Nat.zero_le _, h0⟩, ?_⟩
 rintro i m ys H ⟨rfl, hi, p⟩
 have q := hl i ys H hi p
 by_cases hlt : i < xs.length
 ·refine .inr ⟨⟨xs, xs[i], q, by simp [hlt]⟩, fun v H' y => ?_⟩
  obtain ⟨e, y⟩ := y
  subst e
  exact hs i v ys _ (y xs q) p
 ·have e : i = xs.length := by lia
  subst e
  exact .inl ⟨⟨xs, q, by simp⟩, hd ys H p⟩
theorem AI.updFresh {H H3 : Hp} {D : Addr} {o : HO} (s : AI H H3) (hD : H D = none) : AI H (L2.upd H3 D o) := fun b u e => by
 rw [AN (An e hD)]; exact s b u e
open PySem.W
noncomputable def KOk (n : Nat) (lt : Nat → Nat → Bool) {α : Type} : KasT α → (α → Prop) → Prop
 | .ret a, Q => Q a
 | .ask i j k, Q => i < n ∧ j < n ∧ KOk n lt (k (lt i j)) Q
theorem KOk.bind {n : Nat} {lt : Nat → Nat → Bool} {α β : Type} {f : α → KasT β} {Q : β → Prop} : ∀ {t : KasT α}, KOk n lt t (fun a => KOk n lt (f a) Q) → KOk n lt (t.bind f) Q
 | .ret _, h => h
 | .ask _ _ k, h => ⟨h.1, h.2.1, KOk.bind (t := k _) h.2.2⟩
theorem KOk.mono {n : Nat} {lt : Nat → Nat → Bool} {α : Type} {Q Q' : α → Prop} (hq : ∀ a, Q a → Q' a) : ∀ {t : KasT α}, KOk n lt t Q → KOk n lt t Q'
 | .ret _, h => hq _ h
 | .ask _ _ k, h => ⟨h.1, h.2.1, KOk.mono hq (t := k _) h.2.2⟩
theorem KOk.wp {n : Nat} {lt : Nat → Nat → Bool} {α : Type} {cmp : Nat → Nat → (Bool → Shared → Prop) → Shared → Prop} {Q : α → Shared → Prop} {s : Shared} (hc : ∀ i j C, i < n → j < n → C (lt i j) s → cmp i j C s) : ∀ {t : KasT α}, KOk n lt t (fun a => Q a s) → t.kasWp cmp Q s
 | .ret _, h => h
 | .ask i j k, h => hc i j _ h.1 h.2.1 (KOk.wp hc (t := k _) h.2.2)
structure STO (n : Nat) (lt : Nat → Nat → Bool) : Prop where
 tri : ∀ i j, i < n → j < n → i ≠ j → lt i j = true ∨ lt j i = true
 asym : ∀ i j, lt i j = true → lt j i = false
 trans : ∀ i j k, lt i j = true → lt j k = true → lt i k = true
section
variable {n : Nat} {lt : Nat → Nat → Bool} {p : Array Nat}
noncomputable def at0 (p : Array Nat) (i : Nat) : Nat := p.getD i 0
structure PR (n : Nat) (p : Array Nat) : Prop where
 pm : p.Perm (List.range n).toArray
theorem PR.size (h : PR n p) : p.size = n := by simpa using h.pm.size_eq
theorem PR.bd (h : PR n p) {i : Nat} (hi : i < n) : at0 p i < n := by
 have hs := h.size
 have hm : p[i]'(by lia) ∈ p := Array.getElem_mem _
 have := (h.pm.mem_iff).mp hm
 have e : at0 p i = p[i]'(by lia) := by unfold at0; rw [Array.getD_eq_getD_getElem?, Array.getElem?_eq_getElem (by lia)]; rfl
 rw [e]
 simpa using this
theorem PR.inj (h : PR n p) {i j : Nat} (hi : i < n) (hj : j < n) (e : at0 p i = at0 p j) : i = j := by
 have hs := h.size
 have hnd : p.toList.Nodup := by
  have hp : p.toList.Perm (List.range n) := by simpa using Array.perm_iff_toList_perm.mp h.pm
  exact hp.nodup_iff.mpr List.nodup_range
 have ei : at0 p i = p.toList[i]'(by simpa using (by lia : i < p.size)) := by unfold at0; rw [Array.getD_eq_getD_getElem?, Array.getElem?_eq_getElem (by lia)]; simp
 have ej : at0 p j = p.toList[j]'(by simpa using (by lia : j < p.size)) := by unfold at0; rw [Array.getD_eq_getD_getElem?, Array.getElem?_eq_getElem (by lia)]; simp
 rw [ei, ej] at e
 exact (List.getElem_inj hnd).mp e
noncomputable def Srt (lt : Nat → Nat → Bool) (p : Array Nat) (k : Nat) : Prop := ∀ i, i + 1 < k → lt (at0 p i) (at0 p (i + 1)) = true
noncomputable def Dsc (lt : Nat → Nat → Bool) (p : Array Nat) (k : Nat) : Prop := ∀ i, i + 1 < k → lt (at0 p (i + 1)) (at0 p i) = true
theorem Srt.all (S : STO n lt) {k : Nat} (h : Srt lt p k) : ∀ {i j : Nat}, i < j → j < k → lt (at0 p i) (at0 p j) = true := by
 intro i j hij hj
 induction j with
 | zero => lia
 | succ j ih =>
  by_cases e : i = j
  ·subst e; exact h i hj
  ·exact S.trans _ _ _ (ih (by lia) (by lia)) (h j hj)
theorem TK (S : STO n lt) (hp : PR n p) : ∀ (f a : Nat), 1 ≤ a → a + f ≤ n → Srt lt p a → KOk n lt (kas_asc p f a) (fun m => a ≤ m ∧ m ≤ a + f ∧ Srt lt p m ∧ (m < a + f → lt (at0 p m) (at0 p (m - 1)) = true))
 | 0, a, h1, h2, hs => ⟨Nat.le_refl _, Nat.le_refl _, hs, fun h => by lia⟩
 | f + 1, a, h1, h2, hs => by
  refine ⟨hp.bd (i := a) (by lia), hp.bd (i := a - 1) (by lia), ?_⟩
  cases c : lt (p.getD a 0) (p.getD (a - 1) 0) with
  | true => exact ⟨Nat.le_refl _, by lia, hs, fun _ => c⟩
  | false =>
   have hs' : Srt lt p (a + 1) := fun i hi => by
    by_cases e : i + 1 = a
    ·have e' : i = a - 1 := by lia
     subst e'
     rcases S.tri (at0 p (a - 1)) (at0 p a) (hp.bd (by lia)) (hp.bd (by lia)) (fun z => by have := hp.inj (by lia) (by lia) z; lia) with z | z
     ·rw [show a - 1 + 1 = a by lia]; exact z
     ·have z' : lt (p.getD a 0) (p.getD (a - 1) 0) = true := z
      rw [c] at z'; cases z'
    ·exact hs i (by lia)
   refine KOk.mono (fun m hm => ?_) (TK S hp f (a + 1) (by lia) (by lia) hs')
   exact ⟨by lia, by lia, hm.2.2.1, fun h => hm.2.2.2 (by lia)⟩
theorem T6 (S : STO n lt) (hp : PR n p) : ∀ (f a : Nat), 1 ≤ a → a + f ≤ n → Dsc lt p a → KOk n lt (kas_desc f p a 0) (fun r => r.1 = p ∧ r.2.2 = 0 ∧ a ≤ r.2.1 ∧ r.2.1 ≤ a + f ∧ Dsc lt p r.2.1)
 | 0, a, h1, h2, hs => ⟨rfl, rfl, Nat.le_refl _, Nat.le_refl _, hs⟩
 | f + 1, a, h1, h2, hs => by
  refine ⟨hp.bd (i := a) (by lia), hp.bd (i := a - 1) (by lia), ?_⟩
  cases c : lt (p.getD a 0) (p.getD (a - 1) 0) with
  | true =>
   dsimp only
   rw [if_pos rfl, if_neg (by lia)]
   have hs' : Dsc lt p (a + 1) := fun i hi => by
    by_cases e : i + 1 = a
    ·have e' : i = a - 1 := by lia
     subst e'
     rw [show a - 1 + 1 = a by lia]; exact c
    ·exact hs i (by lia)
   refine KOk.mono (fun m hm => ?_) (T6 S hp f (a + 1) (by lia) (by lia) hs')
   exact ⟨hm.1, hm.2.1, by lia, by lia, hm.2.2.2.2⟩
  | false =>
   dsimp only
   rw [if_neg (by simp)]
   refine ⟨hp.bd (i := a - 1) (by lia), hp.bd (i := a) (by lia), ?_⟩
   have d : lt (p.getD (a - 1) 0) (p.getD a 0) = true := by
    rcases S.tri (at0 p (a - 1)) (at0 p a) (hp.bd (by lia)) (hp.bd (by lia)) (fun z => by have := hp.inj (by lia) (by lia) z; lia) with z | z
    ·exact z
    ·have z' : lt (p.getD a 0) (p.getD (a - 1) 0) = true := z
     rw [c] at z'; cases z'
   rw [d]
   dsimp only
   rw [if_pos rfl]
   exact ⟨rfl, rfl, Nat.le_refl _, Nat.le_add_right _ _, hs⟩
theorem Vf (hp : PR n p) {m k : Nat} (hm : m ≤ n) (hk : k < m) : at0 (kas_rev p 0 m) k = at0 p (m - 1 - k) := by
 have hs := hp.size
 unfold at0 kas_rev
 rw [Array.getD_eq_getD_getElem?, Array.getD_eq_getD_getElem?, getElem?_mirror_all (by lia), if_pos ⟨by lia, hk⟩]
 rw [show 0 + m - 1 - k = m - 1 - k by lia]
theorem ZJ (S : STO n lt) (hp : PR n p) {m : Nat} (hm : m ≤ n) (h : Dsc lt p m) : PR n (kas_rev p 0 m) ∧ Srt lt (kas_rev p 0 m) m := by
 refine ⟨⟨(mirror_perm ..).trans hp.pm⟩, fun i hi => ?_⟩
 rw [Vf hp hm (by lia), Vf hp hm (by lia)]
 have := h (m - 1 - (i + 1)) (by lia)
 rw [show m - 1 - (i + 1) + 1 = m - 1 - i by lia] at this
 exact this
theorem Wy (S : STO n lt) (hp : PR n p) {m : Nat} (h1 : 1 ≤ m) (hm : m ≤ n) (h : Dsc lt p m) : KOk n lt (kas_tail3 m n p) (fun r => PR n r.2 ∧ r.1 ≤ n ∧ 1 ≤ r.1 ∧ Srt lt r.2 r.1) := by
 obtain ⟨hp', hs⟩ := ZJ S hp hm h
 refine KOk.bind (KOk.mono (fun k hk => ?_) (TK S hp' (n - m) m h1 (by lia) hs))
 exact ⟨hp', by lia, by lia, hk.2.2.1⟩
theorem Sh (S : STO n lt) (hp : PR n p) (h2 : 2 ≤ n) (h : lt (at0 p 1) (at0 p 0) = true) : KOk n lt (kas_descPart 1 n p) (fun r => PR n r.2 ∧ r.1 ≤ n ∧ 1 ≤ r.1 ∧ Srt lt r.2 r.1) := by
 have hs : Dsc lt p 2 := fun i hi => by
  have e : i = 0 := by lia
  subst e; exact h
 refine KOk.bind (KOk.mono (fun r hr => ?_) (T6 S hp (n - (1 + 1)) (1 + 1) (by lia) (by lia) hs))
 obtain ⟨e1, e2, h3, h4, h5⟩ := hr
 rw [e2, if_neg (by lia), e1]
 exact Wy S hp (by lia) (by lia) h5
theorem WM (S : STO n lt) (hp : PR n p) (h2 : 2 ≤ n) : KOk n lt (kas_count n p) (fun r => PR n r.2 ∧ r.1 ≤ n ∧ 1 ≤ r.1 ∧ Srt lt r.2 r.1) := by
 refine KOk.bind (KOk.mono (fun m hm => ?_) (TK S hp (n - 1) 1 (Nat.le_refl _) (by lia) (fun i hi => by lia)))
 obtain ⟨m1, m2, hs, hstop⟩ := hm
 by_cases e : m = n
 ·rw [if_pos (by simp [e])]
  exact ⟨hp, by lia, m1, hs⟩
 ·rw [if_neg (by simp [e])]
  by_cases e1 : m > 1
  ·rw [if_pos e1]
   refine ⟨hp.bd (i := 0) (by lia), hp.bd (i := m - 1) (by lia), ?_⟩
   have c : lt (p.getD 0 0) (p.getD (m - 1) 0) = true := Srt.all S hs (i := 0) (j := m - 1) (by lia) (by lia)
   rw [c]
   dsimp only
   rw [if_pos rfl]
   exact ⟨hp, by lia, m1, hs⟩
  ·rw [if_neg e1]
   have e2 : m = 1 := by lia
   subst e2
   exact Sh S hp h2 (hstop (by lia))
theorem OF (S : STO n lt) (hp : PR n p) {k : Nat} (hk : k < n) (hs : Srt lt p k) : ∀ (f l r : Nat), r - l ≤ f → l ≤ r → r ≤ k → (∀ i, i < l → lt (at0 p i) (at0 p k) = true) → (∀ i, r ≤ i → i < k → lt (at0 p k) (at0 p i) = true) →
  KOk n lt (kas_place p k f l r) (fun l => l ≤ k ∧ (∀ i, i < l → lt (at0 p i) (at0 p k) = true) ∧ ∀ i, l ≤ i → i < k → lt (at0 p k) (at0 p i) = true)
 | 0, l, r, h1, h2, h3, h4, h5 => ⟨by lia, h4, fun i hi hik => h5 i (by lia) hik⟩
 | f + 1, l, r, h1, h2, h3, h4, h5 => by
  unfold kas_place
  by_cases e : l ≥ r
  ·rw [if_pos e]
   exact ⟨by lia, h4, fun i hi hik => h5 i (by lia) hik⟩
  ·rw [if_neg e]
   refine ⟨hp.bd (i := k) hk, hp.bd (i := (l + r) / 2) (by lia), ?_⟩
   have hmid : (l + r) / 2 < r ∧ l ≤ (l + r) / 2 := by lia
   cases c : lt (p.getD k 0) (p.getD ((l + r) / 2) 0) with
   | true =>
    dsimp only
    rw [if_pos rfl]
    refine OF S hp hk hs f l ((l + r) / 2) (by lia) (by lia) (by lia) h4 fun i hi hik => ?_
    by_cases e2 : i = (l + r) / 2
    ·subst e2; exact c
    ·exact S.trans _ _ _ c (Srt.all S hs (by lia) hik)
   | false =>
    dsimp only
    rw [if_neg (by simp)]
    have d : lt (at0 p ((l + r) / 2)) (at0 p k) = true := by
     rcases S.tri (at0 p ((l + r) / 2)) (at0 p k) (hp.bd (by lia)) (hp.bd hk) (fun z => by have := hp.inj (by lia) hk z; lia) with z | z
     ·exact z
     ·have z' : lt (p.getD k 0) (p.getD ((l + r) / 2) 0) = true := z
      rw [c] at z'; cases z'
    refine OF S hp hk hs f ((l + r) / 2 + 1) r (by lia) (by lia) h3 (fun i hi => ?_) h5
    by_cases e2 : i = (l + r) / 2
    ·subst e2; exact d
    ·exact S.trans _ _ _ (Srt.all S hs (i := i) (j := (l + r) / 2) (by lia) (by lia)) d
theorem QA (hp : PR n p) {k l j : Nat} (hk : k < n) (hl : l ≤ k) : at0 (bubble p k (k - l)) j = if j = l then at0 p k else if l < j ∧ j ≤ k then at0 p (j - 1) else at0 p j := by
 have hs := hp.size
 unfold at0
 rw [Array.getD_eq_getD_getElem?, getElem?_bubble (by lia) (k - l) (by lia) j, show k - (k - l) = l by lia]
 repeat' split
 all_goals rw [Array.getD_eq_getD_getElem?]
theorem Vo (S : STO n lt) : ∀ (f k : Nat) (p : Array Nat), PR n p → k + f = n → Srt lt p k → KOk n lt (kas_bin f p k) (fun q => PR n q ∧ Srt lt q n)
 | 0, k, p, hp, hk, hs => by
  have e : k = n := by lia
  subst e
  exact ⟨hp, hs⟩
 | f + 1, k, p, hp, hk, hs => by
  refine KOk.bind (KOk.mono (fun l hl => ?_) (OF S hp (by lia) hs k 0 k (by lia) (by lia) (Nat.le_refl _) (fun i hi => by lia) (fun i h1 h2 => by lia)))
  obtain ⟨h1, h2, h3⟩ := hl
  refine Vo S f (k + 1) _ ⟨(bubble_perm ..).trans hp.pm⟩ (by lia) fun i hi => ?_
  rw [QA hp (by lia) h1, QA hp (by lia) h1]
  by_cases c1 : i + 1 < l
  ·rw [if_neg (by lia), if_neg (by lia), if_neg (by lia), if_neg (by lia)]
   exact hs i (by lia)
  ·by_cases c2 : i + 1 = l
   ·rw [if_neg (by lia), if_neg (by lia), if_pos c2]
    exact h2 i (by lia)
   ·by_cases c3 : i = l
    ·rw [if_pos c3, if_neg (by lia), if_pos (by lia), show i + 1 - 1 = i by lia]
     exact h3 i (by lia) (by lia)
    ·rw [if_neg c3, if_pos (by lia), if_neg (by lia), if_pos (by lia), show i + 1 - 1 = i by lia]
     have := hs (i - 1) (by lia)
     rw [show i - 1 + 1 = i by lia] at this
     exact this
theorem XA (S : STO n lt) (h2 : 2 ≤ n) : KOk n lt (kas_sort n) (fun q => PR n q ∧ Srt lt q n) := by
 refine KOk.bind (KOk.mono (fun r hr => ?_) (WM S ⟨Array.Perm.refl _⟩ h2))
 obtain ⟨h1, h3, h4, h5⟩ := hr
 by_cases e : r.1 < n
 ·rw [if_pos e, show max r.1 1 = r.1 by lia]
  exact Vo S _ _ _ h1 (by lia) h5
 ·rw [if_neg e]
  exact ⟨h1, by have e2 : r.1 = n := by lia
                rw [← e2]; exact h5⟩
end
section
variable {prog : Program} {w : World} {A : Around} {E : Value → Shared → Prop} {s : Shared}
noncomputable def EL (vs : List Value) (p : Array Nat) : List Value := p.toList.map fun i => vs.getD i Value.none
theorem VY {vs : List Value} {p : Array Nat} (hp : PR vs.length p) : (EL vs p).length = vs.length := by
 unfold EL; rw [List.length_map, Array.length_toList, hp.size]
theorem M8 {vs : List Value} (h : vs.length < 2) : EL vs (List.range vs.length).toArray = vs := by
 match vs, h with
 | [], _ => rfl
 | [_], _ => rfl
theorem W5 (vs : List Value) : (vs.toArray.zip vs.toArray).map (·.2) = vs.toArray := by
 apply Array.toList_inj.mp
 rw [Array.toList_map, Array.toList_zip]
 exact List.map_snd_zip (Nat.le_refl _)
theorem WI {a : Addr} {vs : List Value} {n : Nat} {lt : Nat → Nat → Bool} {P : PySem.Fin → Shared → Prop} (ho : s.heap.get? a = some (seqObj "list" vs.toArray n)) (S : STO vs.length lt) (h64 : vs.length < 64)
  (hc : 2 ≤ vs.length → ∀ h' : Heap, (∀ b o, b ≠ a → s.heap.get? b = some o → h'.get? b = some o) → ∃ κ : SortKind,
   (∀ (R : SortKind → Shared → Prop), R κ { s with heap := h' } → wpAny (model prog w) A (keyKind' vs.toArray) R (fun _ _ => False) { s with heap := h' }) ∧
   ∀ i j (C : Bool → Shared → Prop), i < vs.length → j < vs.length → C (lt i j) { s with heap := h' } → wpAny (model prog w) A (keyLt' κ (vs.getD i Value.none) (vs.getD j Value.none)) C (fun _ _ => False) { s with heap := h' })
  (h : ∀ (h' : Heap) (p : Array Nat) (c : Nat), (∀ b o, b ≠ a → s.heap.get? b = some o → h'.get? b = some o) → h'.get? a = some (seqObj "list" (EL vs p).toArray c) → PR vs.length p → Srt lt p vs.length → P (.done (.ret .none)) { s with heap := h' }) :
  wpAny (model prog w) A (Builtin.«list.sort» ⟨[.ref a], []⟩) P E s := by
 have ha : a < s.heap.objs.size := Heap.lt_size ho
 have s1 := Heap.SameBut.update s.heap a (Obj.mapSeq fun _ => (#[] : Array Value))
 obtain ⟨e1, ho1⟩ : ∃ e1, (s.heap.update a (Obj.mapSeq fun _ => (#[] : Array Value))).get? a = some (seqObj "list" #[] e1) := ⟨_, get?_update_seq ho fun _ => #[]⟩
 rw [list_sort_plain]
 refine wpAny_bind (listItems_at ho rfl ?_)
 refine wpAny_bind (listUpdate_at ho rfl ?_ (by rw [List.size_toArray, sizeLine_eq]; lia) (Nat.zero_le _))
 refine wpAny_bind (seqEpoch_at ho1 rfl ?_)
 refine wpAny_bind (wpAny_newTuple ?_ (by show vs.length ≤ _; rw [sizeLine_eq]; lia))
 refine wpAny_bind (wpAny_newList ?_ (Nat.zero_le _))
 refine wpAny_holding ?_
 generalize hH : ((s.heap.update a (Obj.mapSeq fun _ => (#[] : Array Value))).push (seqObj "tuple" vs.toArray 0)).push (seqObj "list" #[] 0) = H3
 show wpAny (model prog w) A _ P E { s with heap := H3 }
 dsimp only
 have keep3 : ∀ b o, b ≠ a → s.heap.get? b = some o → H3.get? b = some o := fun b o hb e => by
  rw [← hH]; exact Heap.get?_push_of_some _ (Heap.get?_push_of_some _ ((s1.2 b hb).trans e))
 have at3 : H3.get? a = some (seqObj "list" #[] e1) := by rw [← hH]; exact Heap.get?_push_of_some _ (Heap.get?_push_of_some _ ho1)
 have fin : ∀ (p : Array Nat), PR vs.length p → Srt lt p vs.length → P (.done (.ret .none)) { s with heap := H3.update a (Obj.mapSeq fun _ => (EL vs p).toArray) } := fun p hp hs => by
  obtain ⟨c2, hc2⟩ : ∃ c2, (H3.update a (Obj.mapSeq fun _ => (EL vs p).toArray)).get? a = some (seqObj "list" (EL vs p).toArray c2) := ⟨_, get?_update_seq at3 fun _ => (EL vs p).toArray⟩
  exact h _ p c2 (fun b o hb e => ((Heap.SameBut.update H3 a _).2 b hb).trans (keep3 b o hb e)) hc2 hp hs
 by_cases h2 : vs.toArray.size < 2
 ·rw [if_pos h2, if_pos h2]
  have hl2 : vs.length < 2 := by simpa using h2
  refine wpAny_bind (wpAny_pure ?_)
  rw [StateT.run_pure]
  refine wpAny_bind (wpAny_pure ?_)
  dsimp only
  refine wpAny_bind (seqEpoch_at at3 rfl ?_)
  have ez : ((vs.toArray.zip vs.toArray).map (·.2)) = (EL vs (List.range vs.length).toArray).toArray := by
   rw [M8 hl2]
   exact W5 vs
  show wpAny _ _ (Builtin.List.listUpdate (.ref a) (fun _ => (vs.toArray.zip vs.toArray).map (·.2)) >>= _) _ _ _
  rw [ez]
  refine wpAny_bind (listUpdate_at at3 rfl ?_ (Nat.zero_le _) (by show (EL vs (List.range vs.length).toArray).toArray.size ≤ _; rw [M8 hl2, List.size_toArray, sizeLine_eq]; lia))
  simp only [bne_self_eq_false, Bool.false_eq_true, if_false]
  exact wpAny_pure (fin _ ⟨Array.Perm.refl _⟩ fun i hi => by lia)
 ·rw [if_neg h2, if_neg h2]
  have hl2 : 2 ≤ vs.length := by simpa using h2
  obtain ⟨κ, k1, k2⟩ := hc hl2 H3 keep3
  refine wpAny_bind (wpAny_mono (k1 (fun κ' s' => κ' = κ ∧ s' = { s with heap := H3 }) ⟨rfl, rfl⟩) ?_ fun _ _ x => x.elim)
  rintro κ' s' ⟨rfl, rfl⟩
  refine wpAny_bind (wpAny_mono (kat_run (Q := fun st' s' => ∃ p : Array Nat, arrOf st' = p.map (kas_item (vs.toArray.zip vs.toArray)) ∧ failedOf st' = none ∧ PR vs.length p ∧ Srt lt p vs.length ∧ s' = { s with heap := H3 })
   (G := fun p s' => PR vs.length p ∧ Srt lt p vs.length ∧ s' = { s with heap := H3 }) rfl hl2 h64 (fun p' st' s' a1 a2 a3 a4 => ⟨p', a2, a3, a4⟩)
   (KOk.wp (fun i j C hi hj q => k2 i j C hi hj q) (KOk.mono (fun q hq => ⟨hq.1, hq.2, rfl⟩) (XA S hl2)))) ?_ fun _ _ e => e)
  rintro ⟨⟨⟩, st'⟩ s' ⟨p, har, hf, hp, hs, rfl⟩
  dsimp only
  refine wpAny_bind (seqEpoch_at at3 rfl ?_)
  have hout : (arrOf st').map (·.2) = (EL vs p).toArray := kat_snds rfl har
  rw [hout]
  refine wpAny_bind (listUpdate_at at3 rfl ?_ (Nat.zero_le _) (by show (EL vs p).toArray.size ≤ _; rw [List.size_toArray, VY hp, sizeLine_eq]; lia))
  rw [hf]
  simp only [bne_self_eq_false, Bool.false_eq_true, if_false]
  exact wpAny_pure (fin p hp hs)
theorem VT {l : Addr} {vs : List Value} {lt : Nat → Nat → Bool} {Q : Value → Shared → Prop} (hl : s.heap.IsList l vs.toArray) (S : STO vs.length lt) (h64 : vs.length < 64)
  (hc : 2 ≤ vs.length → ∀ h' : Heap, (∀ b o, s.heap.get? b = some o → h'.get? b = some o) → ∃ κ : SortKind,
   (∀ (R : SortKind → Shared → Prop), R κ { s with heap := h' } → wpAny (model prog w) A.in1.in1 (keyKind' vs.toArray) R (fun _ _ => False) { s with heap := h' }) ∧
   ∀ i j (C : Bool → Shared → Prop), i < vs.length → j < vs.length → C (lt i j) { s with heap := h' } → wpAny (model prog w) A.in1.in1 (keyLt' κ (vs.getD i Value.none) (vs.getD j Value.none)) C (fun _ _ => False) { s with heap := h' })
  (h : ∀ (D : Addr) (h' : Heap) (p : Array Nat) (c : Nat), s.heap.objs.size ≤ D → (∀ b o, s.heap.get? b = some o → h'.get? b = some o) → h'.get? D = some (seqObj "list" (EL vs p).toArray c) → PR vs.length p → Srt lt p vs.length → Q (.ref D) { s with heap := h' }) :
  wpAny (model prog w) A (call (.builtin "sorted") [.ref l]) Q E s := by
 refine Calls.call_function_entry kind_sorted plain_sorted entry_sorted (args_sorted1 _) ?_
 unfold Builtin.«sorted»
 refine wpAny_bind (m := checkCount "sorted" 1 1 _) (wpAny_pure ?_)
 refine wpAny_bind (collect_list hl ?_ (by rw [sizeLine_eq]; lia))
 refine wpAny_bind (wpAny_newList ?_ (by rw [sizeLine_eq]; lia))
 have hsz : ((s.heap.push (seqObj "list" #[] 0)).update s.heap.objs.size (Obj.mapSeq (· ++ vs.toArray))).objs.size = s.heap.objs.size + 1 := by
  rw [Heap.size_update, size_push']
 have hoL : (((s.heap.push (seqObj "list" #[] 0)).update s.heap.objs.size (Obj.mapSeq (· ++ vs.toArray))).push (seqObj "list" vs.toArray 0)).get? (s.heap.objs.size + 1) = some (seqObj "list" vs.toArray 0) := by
  rw [← hsz]; exact Heap.get?_push_size _ rfl
 have keep : ∀ b o, s.heap.get? b = some o → (((s.heap.push (seqObj "list" #[] 0)).update s.heap.objs.size (Obj.mapSeq (· ++ vs.toArray))).push (seqObj "list" vs.toArray 0)).get? b = some o := fun b o q => by
  have hlt : b < s.heap.objs.size := Heap.lt_size q
  rw [Heap.get?_push_ne _ _ _ (by rw [hsz]; exact Nat.ne_of_lt (Nat.lt_succ_of_lt hlt)), Heap.get?_update_ne _ _ _ _ (Nat.ne_of_lt hlt), Heap.get?_push_ne _ _ _ (Nat.ne_of_lt hlt)]
  exact q
 show wpAny _ _ _ _ _ { s with heap := ((s.heap.push (seqObj "list" #[] 0)).update s.heap.objs.size (Obj.mapSeq (· ++ vs.toArray))).push (seqObj "list" vs.toArray 0) }
 rw [hsz]
 have ne : ∀ b o, s.heap.get? b = some o → b ≠ s.heap.objs.size + 1 := fun b o q => Nat.ne_of_lt (Nat.lt_succ_of_lt (Heap.lt_size q))
 refine wpAny_bind (wpAny_holding (wpAny_call_entry slot_list_sort ⟨_, hoL, rfl⟩ entry_list_sort ?body (args_list_sort _)))
 case body =>
  refine WI (s := { s with heap := ((s.heap.push (seqObj "list" #[] 0)).update s.heap.objs.size (Obj.mapSeq (· ++ vs.toArray))).push (seqObj "list" vs.toArray 0) }) hoL S h64
   (fun h2 h' k => hc h2 h' fun b o q => k b o (ne b o q) (keep b o q)) fun h' p c k hat hp hs => ?_
  exact ⟨_, rfl, wpAny_pure ⟨_, rfl, h _ h' p c (Nat.le_succ _) (fun b o q => k b o (ne b o q) (keep b o q)) hat hp hs⟩⟩
end
theorem R8 : ∀ {a b : List Int}, HT.lexLt a b = true → HT.lexLt b a = false
 | [], [], h => by cases h
 | [], _ :: _, _ => rfl
 | _ :: _, [], h => by cases h
 | x :: r, y :: t, h => by
  rw [HT.lexLt_cons] at h ⊢
  by_cases e : x = y
  ·rw [if_pos e] at h; rw [if_pos e.symm]; exact R8 h
  ·rw [if_neg e] at h; rw [if_neg (Ne.symm e)]
   have := of_decide_eq_true h
   exact decide_eq_false (by lia)
theorem P6 : ∀ {a b c : List Int}, HT.lexLt a b = true → HT.lexLt b c = true → HT.lexLt a c = true
 | [], _, [], _, h => by rename_i b _; cases b <;> cases h
 | [], _, _ :: _, _, _ => rfl
 | _ :: _, [], _, h, _ => by cases h
 | _ :: _, _ :: _, [], _, h => by cases h
 | x :: r, y :: t, z :: u, h1, h2 => by
  rw [HT.lexLt_cons] at h1 h2 ⊢
  by_cases e1 : x = y
  ·rw [if_pos e1] at h1
   by_cases e2 : y = z
   ·rw [if_pos e2] at h2; rw [if_pos (e1.trans e2)]; exact P6 h1 h2
   ·rw [if_neg e2] at h2; rw [if_neg (by lia), e1]; exact h2
  ·rw [if_neg e1] at h1
   by_cases e2 : y = z
   ·rw [if_neg (by lia), ← e2]; exact h1
   ·rw [if_neg e2] at h2
    have d1 := of_decide_eq_true h1
    have d2 := of_decide_eq_true h2
    rw [if_neg (by lia)]
    exact decide_eq_true (by lia)
theorem UC : ∀ {a b : List Int}, a ≠ b → HT.lexLt a b = true ∨ HT.lexLt b a = true
 | [], [], h => absurd rfl h
 | [], _ :: _, _ => .inl rfl
 | _ :: _, [], _ => .inr rfl
 | x :: r, y :: t, h => by
  rw [HT.lexLt_cons, HT.lexLt_cons]
  by_cases e : x = y
  ·rw [if_pos e, if_pos e.symm]
   exact UC fun z => h (by rw [e, z])
  ·rw [if_neg e, if_neg (Ne.symm e)]
   rcases (by lia : x < y ∨ y < x) with z | z
   ·exact .inl (decide_eq_true z)
   ·exact .inr (decide_eq_true z)
theorem Xl {ts : List (List Int)} (h : ts.Nodup) : STO ts.length (fun i j => HT.lexLt (ts.getD i []) (ts.getD j [])) where
 tri := fun i j hi hj hij => UC fun z => hij ((List.getElem_inj h).mp (by simpa [List.getD_eq_getElem?_getD, hi, hj] using z))
 asym := fun _ _ => R8
 trans := fun _ _ _ => P6
section
variable {prog : Program} {w : World} {A : Around} {s : Shared}
theorem NA {Q : Bool → Shared → Prop} : ∀ {t1 t2 : List Int} {us ws : List Value} (i : Nat) (fin : Bool), As (t1.map V.int) us → As (t2.map V.int) ws → fin = decide (t1.length < t2.length) → Q (HT.lexLt t1 t2) s →
  KatLex prog w A true fin Q (us.zip ws) i s
 | [], [], us, ws, i, fin, r1, r2, hf, q => by
  cases r1; cases r2
  rw [hf]; exact q
 | [], _ :: _, us, ws, i, fin, r1, r2, hf, q => by
  cases r1
  rw [hf]; exact q
 | x :: t1, [], us, ws, i, fin, r1, r2, hf, q => by
  cases r2
  have e : us.zip ([] : List Value) = [] := by cases us <;> rfl
  rw [e, hf]; exact q
 | x :: t1, y :: t2, us, ws, i, fin, r1, r2, hf, q => by
  cases r1 with
  | cons ra rb =>
   cases r2 with
   | cons rc rd =>
    obtain ⟨k1, rfl⟩ := ra
    obtain ⟨k2, rfl⟩ := rc
    refine kat_cons (wpAny_eqBool_int ?_)
    rw [HT.lexLt_cons] at q
    by_cases e : x = y
    ·rw [if_pos e] at q
     have e2 : (x == y) = true := by simpa using e
     rw [e2]
     refine kat_yes (NA (i + 1) fin rb rd ?_ q)
     rw [hf]; simp
    ·rw [if_neg e] at q
     have e2 : (x == y) = false := by simpa using e
     rw [e2]
     refine kat_no ?_
     cases i with
     | zero => exact oneLt_int q
     | succ i => exact kat_one _ _ (lt_int (show W.BoolBack Q (.bool (decide (x < y))) s from q))
end
section
variable {X : Cx}
theorem Pq : ∀ {zs : List (Addr × List Int)} {us : List Value}, As (zs.map fun z => V.ref z.1) us → us = zs.map fun z => Value.ref z.1
 | [], _, r => by cases r; rfl
 | z :: zs, _, r => by
  cases r with
  | cons ra rb =>
   cases ra
   rw [Pq rb]; rfl
theorem SO {h : Heap} {K : PySem.W.Frag} {M : Model} : ∀ {zs : List (Addr × List Int)}, (∀ z ∈ zs, z.2 ≠ [] ∧ ∃ its : List Value, As (z.2.map V.int) its ∧ IsTup h z.1 its.toArray) →
  ∃ fs : List Value, KatTups h (zs.map fun z => Value.ref z.1) fs ∧ fs.length = zs.length ∧ ∀ v ∈ fs, ∃ i t, v = Value.int i t
 | [], _ => ⟨[], .nil, rfl, fun _ hv => absurd hv (by simp)⟩
 | z :: zs, hz => by
  obtain ⟨fs, h1, h2, h3⟩ := SO (h := h) (K := K) (M := M) (zs := zs) fun y hy => hz y (List.mem_cons_of_mem _ hy)
  obtain ⟨hne, its, rv, o, ho, hc, n, hd⟩ := hz z List.mem_cons_self
  obtain ⟨a, t⟩ := z
  cases t with
  | nil => exact absurd rfl hne
  | cons x t =>
   cases rv with
   | cons ra rb =>
    obtain ⟨tk, rfl⟩ := ra
    refine ⟨.int x tk :: fs, KatTups.cons ho hc hd (by simp) h1, by rw [List.length_cons, List.length_cons, h2], fun v hv => ?_⟩
    rcases List.mem_cons.mp hv with rfl | hv
    ·exact ⟨x, tk, rfl⟩
    ·exact h3 v hv
noncomputable def Ep (K : PySem.W.Frag) : List V → Hp → VK → Prop := fun xs H Q => ∃ l, xs = [.ref l] ∧ ∃ zs : List (Addr × List Int), SqL K H l (zs.map fun z => V.ref z.1) ∧ (∀ z ∈ zs, z.2 ≠ [] ∧ SqT K H z.1 (z.2.map V.int)) ∧ (zs.map (·.2)).Nodup ∧ zs.length < 64 ∧
 ∀ (D : Addr) (H' : Hp) (zs' : List (Addr × List Int)), H D = none → AI H H' → H' D = some (.lst (zs'.map fun z => V.ref z.1)) → zs'.Perm zs → zs'.Pairwise (fun a b => HT.lexLt a.2 b.2 = true) → Q (.ref D) H'
theorem Rm {zs : List (Addr × List Int)} {i : Nat} (hi : i < zs.length) : (zs.map fun z => Value.ref z.1).getD i Value.none = Value.ref (zs[i]).1 := by
 rw [List.getD_eq_getElem?_getD, List.getElem?_map, List.getElem?_eq_getElem hi]; rfl
noncomputable def NP {α : Type} (d : α) (xs : List α) (p : Array Nat) : List α := p.toList.map fun i => xs.getD i d
theorem VZ {α : Type} (d : α) (xs : List α) {p : Array Nat} (hp : PR xs.length p) : (NP d xs p).Perm xs := by
 have h1 : p.toList.Perm (List.range xs.length) := by simpa using Array.perm_iff_toList_perm.mp hp.pm
 have h2 := h1.map fun i => xs.getD i d
 have h3 : ((List.range xs.length).map fun i => xs.getD i d) = xs := by
  refine List.ext_getElem (by simp) fun i h1 h2 => ?_
  simp [List.getD_eq_getElem?_getD]
  rw [List.getElem?_eq_getElem h2]; rfl
 rw [h3] at h2
 exact h2
theorem WX {α β : Type} (d : α) (e : β) (f : α → β) (xs : List α) {p : Array Nat} (hp : PR xs.length p) : NP e (xs.map f) p = (NP d xs p).map f := by
 unfold NP
 rw [List.map_map]
 refine List.map_congr_left fun i hi => ?_
 have hi' : i < xs.length := by
  have := (hp.pm.mem_iff).mp (Array.mem_toList_iff.mp hi)
  simpa using this
 show (xs.map f).getD i e = f (xs.getD i d)
 rw [List.getD_eq_getElem?_getD, List.getD_eq_getElem?_getD, List.getElem?_map, List.getElem?_eq_getElem hi']; rfl
theorem Ue {α : Type} (d : α) (xs : List α) {p : Array Nat} {k : Nat} (hk : k < (NP d xs p).length) : (NP d xs p)[k] = xs.getD (at0 p k) d := by
 have hk' : k < p.size := by simpa [NP] using hk
 have e : (NP d xs p)[k]? = some (xs.getD (at0 p k) d) := by
  unfold NP at0
  rw [List.getElem?_map, Array.getElem?_toList, Array.getD_eq_getD_getElem?, Array.getElem?_eq_getElem hk']; rfl
 rw [List.getElem?_eq_getElem hk] at e
 exact Option.some.inj e
theorem Q2 : B1 X (.builtin "sorted") (Ep X.K) := by
 intro pins s σ H xs us Q I r h
 obtain ⟨l, rfl, zs, hl, ht, nd, h64, q⟩ := h
 obtain ⟨u, rfl, ru⟩ := vals1 r
 cases ru
 obtain ⟨its, rv, pl, hz⟩ := I.list hl
 have ei := Pq rv
 subst ei
 have hlen : (zs.map fun z => Value.ref z.1).length = zs.length := List.length_map _
 have S : STO (zs.map fun z => Value.ref z.1).length (fun i j => HT.lexLt ((zs.map (·.2)).getD i []) ((zs.map (·.2)).getD j [])) := by
  rw [hlen]
  have := Xl nd
  rw [List.length_map] at this
  exact this
 refine VT pl.isList S (by rw [hlen]; exact h64) (fun h2 h' kp => ?_) fun D h' p c hD kp hat hp hs => ?_
 ·have tups : ∀ z ∈ zs, z.2 ≠ [] ∧ ∃ its : List Value, As (z.2.map V.int) its ∧ IsTup h' z.1 its.toArray := fun z hz => by
   obtain ⟨n1, n2⟩ := ht z hz
   obtain ⟨its, r1, ⟨o, ho, hc⟩, _⟩ := I.tuple n2
   exact ⟨n1, its, r1, o, kp _ _ ho, hc⟩
  obtain ⟨fs, t1, t2, t3⟩ := SO (K := X.K) (M := model X.prog X.w) tups
  refine ⟨tuples' (Value.type "int" != Value.type "tuple"), fun R hR => ?_, fun i j C hi hj hC => ?_⟩
  ·refine kat_kind t1 (by rw [t2]; rw [hlen] at h2; lia) (fun v hv => ?_) (by decide) hR
   obtain ⟨i, t, rfl⟩ := t3 v hv
   exact .of_pure rfl
  ·rw [hlen] at hi hj
   rw [Rm hi, Rm hj]
   obtain ⟨_, i1, r1, o1, ho1, _, n1, hd1⟩ := tups zs[i] (List.getElem_mem hi)
   obtain ⟨_, i2, r2, o2, ho2, _, n2, hd2⟩ := tups zs[j] (List.getElem_mem hj)
   have eb : (Value.type "int" != Value.type "tuple") = true := by decide
   rw [eb]
   have l1 := r1.length
   have l2 := r2.length
   rw [List.length_map] at l1 l2
   refine kat_lt ho1 hd1 ho2 hd2 ?_
   refine NA 0 _ r1 r2 ?_ ?_
   ·simp [l1, l2]
   ·have g1 : (zs.map (·.2)).getD i [] = zs[i].2 := by rw [List.getD_eq_getElem?_getD, List.getElem?_map, List.getElem?_eq_getElem hi]; rfl
    have g2 : (zs.map (·.2)).getD j [] = zs[j].2 := by rw [List.getD_eq_getElem?_getD, List.getElem?_map, List.getElem?_eq_getElem hj]; rfl
    rw [g1, g2] at hC
    exact hC
 ·rw [hlen] at hp hs
  have hfr : H D = none := I.hok.fresh hD
  have eo : EL (zs.map fun z => Value.ref z.1) p = (NP ((0 : Addr), ([] : List Int)) zs p).map fun z => Value.ref z.1 := WX (0, []) Value.none (fun z : Addr × List Int => Value.ref z.1) zs hp
  have ep := VZ ((0 : Addr), ([] : List Int)) zs hp
  have rel : ∀ ys : List (Addr × List Int), As (ys.map fun z => V.ref z.1) (ys.map fun z => Value.ref z.1) := fun ys => by
   induction ys with
   | nil => exact .nil
   | cons y ys ih => exact .cons rfl ih
  have I2 : Inv X pins σ (upd H D (.lst ((NP ((0 : Addr), ([] : List Int)) zs p).map fun z => V.ref z.1))) { s with heap := h' } := by
   refine I.laid (t' := s.toks) kp hD ⟨by rw [List.length_map, ep.length_eq, PySem.sizeLine_eq]; lia, _, c, rel _, ?_⟩
   rw [hat, eo]
  refine ⟨.ref D, _, I2, rfl, q D _ _ hfr (A4 hfr) AQ ep ?_⟩
  refine List.pairwise_iff_getElem.mpr fun i j hi hj hij => ?_
  have hpl : (NP ((0 : Addr), ([] : List Int)) zs p).length = zs.length := ep.length_eq
  rw [Ue, Ue]
  have := Srt.all (n := zs.length) (by rw [hlen] at S; exact S) hs hij (by lia)
  have g : ∀ k, k < zs.length → (zs.map (·.2)).getD (at0 p k) [] = (zs.getD (at0 p k) (0, [])).2 := fun k hk => by
   have := hp.bd hk
   rw [List.getD_eq_getElem?_getD, List.getD_eq_getElem?_getD, List.getElem?_map, List.getElem?_eq_getElem this]; rfl
  rw [g i (by lia), g j (by lia)] at this
  exact this
end
theorem BN : bootBuiltins "sorted" = some (.builtin "sorted") := by decide +kernel
section
variable {X : Cx} {pos : Pos}
noncomputable def Es : TE := fun _ H Q => ∀ p H', H p = none → AI H H' → H' p = some (.dK []) → Q (.ref p) H'
theorem SF : PE X (.Dict [] [] pos) Es := fun pins s σ H Q I h => Wt pins s σ H Q I fun p hp => h p _ hp (A4 hp) AQ
end
section
variable {X : Cx} {o e : Expr} {to te : TE} {pos : Pos}
theorem PE.weak {e : Expr} {t t' : TE} (h : PE X e t) (m : ∀ σ H Q, t' σ H Q → t σ H Q) : PE X e t' := fun pins s σ H Q I q => h pins s σ H Q I (m σ H Q q)
noncomputable def DC (to te : TE) : TE := fun σ H Q => to σ H fun x H1 => ∃ l, x = .ref l ∧ ∃ xs, H1 l = some (.lst xs) ∧ te σ H1 fun y H2 => ∃ ys, H2 l = some (.lst ys) ∧ ys.length < sizeLine ∧ Q .non (upd H2 l (.lst (ys ++ [y])))
end
theorem Xb {H : Hp} {p l : Addr} {xs : List V} {o u : HO} (h : H p = some (.tup xs)) (hl : H l = some o) (hm : ∀ ys, o ≠ .tup ys) : L2.upd H l u p = some (.tup xs) := by
 rw [AN (Be h hl (Ne.symm (hm _)))]; exact h
section
variable {X : Cx} {o e : Expr} {to te : TE} {pos apos cpos : Pos}
noncomputable def tMono (t : TE) : TE := fun σ H Q => ∃ P : VK, t σ H P ∧ ∀ v H', P v H' → Q v H'
theorem PE.mono {t : TE} (h : PE X e t) : PE X e (tMono t) := fun pins s σ H Q I ⟨P, h1, h2⟩ =>
 thn (h pins s σ H P I h1) fun u s1 ⟨v, H1, I1, r1, q1⟩ => ⟨v, H1, I1, r1, h2 v H1 q1⟩
theorem CW (ho : PE X o to) (he : PE X e te)
  (hbase : attributeBase o "append" X.env (eval o X.env) = eval o X.env := by rfl)
  (hfew : ((backTo cpos (starEach [e] X.env)).all (fun x => !x.1) && (backToKw cpos (keywordEach [] X.env)).all (fun x => x.1.isSome)
   && decide ([e].length + ([] : List Keyword).length + (if ([] : List Keyword).isEmpty then 0 else 1) < 30)) = true := by rfl)
  (hline : (apos.endLine == cpos.line) = true := by rfl) (hs : starEach [e] X.env = (false, eval e X.env) :: starEach [] X.env := by rfl) (hplain : (backTo cpos (starEach [] X.env)).any (·.1) = false := by rfl) :
  PE X (.Call (.Attribute o "append" apos) [e] [] cpos) (DC to te) :=
 PE.weak (Xy PySem.F.plainAttrs_list PySem.F.slot_list_append PySem.F.type_list_append Py ho.mono (AA he.mono AC hs) hbase hfew hline hs hplain) fun σ H Q h => by
  refine ⟨_, h, fun x H1 h1 => ?_⟩
  obtain ⟨l, rfl, xs, e1, h1⟩ := h1
  refine ⟨.inl ⟨rfl, xs, SqL.of e1⟩, _, h1, fun y H2 h2 => ?_⟩
  obtain ⟨ys, e2, hz, q⟩ := h2
  exact ⟨l, ys, y, rfl, rfl, e2, hz, q⟩
end
section
variable {X : Cx} {pos : Pos}
noncomputable def QT (i j k : Nat) (ta : TA) : TS := fun D σ H => ta σ H fun vs H1 => ∃ v w u, vs = [v, w, u] ∧ D.nx (((σ.set i (some v)).set j (some w)).set k (some u)) H1
end
section
variable {X : Cx}
noncomputable def RB (K : PySem.W.Frag) : R2 := fun x y H Q => ∃ a b, x = .ref a ∧ y = .ref b ∧ ∃ ns : List Int, SqT K H a (ns.map V.int) ∧ ∃ ms : List Int, SqT K H b (ms.map V.int) ∧ Q (.bl (decide (ns = ms))) H
noncomputable def Qk (K : PySem.W.Frag) : R2 := fun x y H Q => ∃ a b, x = .ref a ∧ y = .ref b ∧ ∃ ns : List Int, SqT K H a (ns.map V.int) ∧ ∃ ms : List Int, SqT K H b (ms.map V.int) ∧ Q (.bl (!decide (ns = ms))) H
noncomputable def Jz (K : PySem.W.Frag) : R2 := fun x y H Q => ∃ a b, x = .ref a ∧ y = .ref b ∧ ∃ xs, SqL K H a xs ∧ SqL K H b [] ∧ Q (.bl (decide (xs = []))) H
theorem T5 (hu : X.A.units < cLine) : OpR X (compareOp .Eq) (Jz X.K) := by
 intro pins s σ H x y v u Q I rx ry h
 obtain ⟨a, b, rfl, rfl, xs, h1, h2, q⟩ := h
 cases rx
 cases ry
 obtain ⟨i1, r1, t1, _⟩ := I.list h1
 obtain ⟨i2, r2, t2, _⟩ := I.list h2
 cases r2
 have l1 := r1.length
 by_cases e : xs = []
 ·subst e
  cases r1
  rw [decide_eq_true rfl] at q
  exact SeqAt.eq_listAt (e := fun _ => true) t1.isList t2.isList rfl hu (fun j h1 h2 => absurd h1 (by simp)) ⟨.bl true, H, I, rfl, q⟩
 ·rw [decide_eq_false e] at q
  refine SeqAt.eq_list_lengthsAt t1.isList t2.isList ?_ hu ⟨.bl false, H, I, rfl, q⟩
  have : i1.length ≠ 0 := by
   intro z
   rw [z] at l1
   exact e (List.eq_nil_of_length_eq_zero l1)
  simpa using this
theorem EK {K : PySem.W.Frag} (h : X.K = K) : IxR X (OW K) := h ▸ AK
noncomputable def Pa (K : PySem.W.Frag) : V → Option Int → Option Int → Hp → VK → Prop := fun x lo hi H Q => ∃ a, x = .ref a ∧ ∃ xs, SqL K H a xs ∧ ∀ p H', H p = none → AI H H' → H' p = some (.lst (Pl xs lo hi)) → Q (.ref p) H'
theorem FV : SlR X (Pa X.K) := fun pins s σ H x v vl vu lo hi sl Q I rx hs pl pu ⟨a, e, xs, h, q⟩ => XT pins s σ H x v vl vu lo hi sl Q I rx hs pl pu ⟨a, xs, e, h, fun p hp => q p _ hp (A4 hp) AQ⟩
theorem P4 {xs : List V} {i : Nat} : Pl xs (some (i : Int)) none = xs.drop i := by
 unfold Pl
 rw [HT.sIx_nat, HT.sIx_none]
 by_cases h : i ≤ xs.length
 ·rw [Nat.min_eq_left h, List.take_of_length_le (by rw [List.length_drop]; lia)]
 ·rw [Nat.min_eq_right (by lia), Nat.sub_self, List.take_zero, List.drop_eq_nil_of_le (by lia)]
end
section
variable {X : Cx} {pins : List (Addr × Obj)} {σ : St} {H : Hp} {s : Shared} {h' : Heap}
theorem Inv.turnedL {t' : Nat} {its : List Addr} (I : Inv X pins σ H s) (k : ∀ b o, b ∉ its → s.heap.get? b = some o → h'.get? b = some o) (hf : ∀ b ∈ its, NT X pins H b) : Inv X pins σ H { s with heap := h', toks := t' } := by
 have nit : ∀ b u, H b = some u → b ∉ its := fun b u e z => by rw [(hf b z).1] at e; cases e
 refine I.step (g' := s.gens) (d' := s.drawn) (ch := its) (fun b hb => ?_) (fun b o _ _ hc e _ => k b o hc e) (fun b o _ _ hc e _ => ⟨o.slots, k b o hc e⟩) (fun _ _ _ _ n => n)
  (fun b o hc e => ⟨o, k b o hc e⟩) (fun _ _ e => e) (fun _ _ _ e => e) (fun b ps e => ⟨#[], by rw [e]; simp⟩) (fun m hm => ?_) (fun b u e => ?_) I.bare
 ·obtain ⟨f0, f1, f2, f3, f4, f5⟩ := hf b hb
  exact ⟨f3, f1, f4, f5⟩
 ·obtain ⟨o, es, ep, ho, r⟩ := hm
  exact ⟨o, es, ep, k _ o (fun z => (hf _ z).2.1 rfl) ho, r⟩
 ·refine (I.hok b u e).stay (fun c v hc q => k c v ?_ q) (fun _ q => q) fun _ _ q => q
  rcases hc with z | z
  ·rw [z]; exact nit b u e
  ·exact nit c _ z
end
noncomputable def Ite (K : PySem.W.Frag) (a : Addr) : It :=
 ⟨fun i H => ∃ xs x, SqL K H a xs ∧ xs[i]? = some x, fun i H x H' => ∃ p y, x = .ref p ∧ H p = none ∧ H' = upd H p (.tup [.int (i : Int), y]) ∧ ∀ xs, SqL K H a xs → xs[i]? = some y, fun i H => ∃ xs, SqL K H a xs ∧ xs.length ≤ i⟩
theorem Uy {P : Program} {w : World} {K : PySem.W.Frag} {elts : List Expr} {k : Nat} {tp : Pos} (a e it : Addr) (hei : e ≠ it) :
  Um P w K (.Tuple elts k tp) (Ite K a) [e, it] e (fun i h => (∃ old, IsEnum h e it (i : Int) old) ∧ h.IsListIter it a i) where
 mem := by simp
 obj := fun i h st b hb => by
  obtain ⟨⟨old, he⟩, hit⟩ := st
  rcases List.mem_cons.mp hb with z | z
  ·subst z
   exact ⟨_, he, fun v z => by
    have z' : Data.fields _ = Data.cell v := z
    cases z'⟩
  ·have z := List.mem_singleton.mp z
   subst z
   obtain ⟨o, e, c, d⟩ := hit
   exact ⟨o, e, fun v z => by rw [d] at z; cases z⟩
 keep := fun i h h' st k => ⟨⟨_, k e (by simp) _ st.1.choose_spec⟩, st.2.at fun o x => k it (by simp) o x⟩
 item := by
  intro X hP hw hK hc i pins s σ H E I hf st hg
  subst hP hw hK
  obtain ⟨xs, x, hq, hx⟩ := hg
  obtain ⟨its, rv, p, hz⟩ := I.list hq
  obtain ⟨u, hu, ru⟩ := rv.get hx
  obtain ⟨⟨old, he⟩, hit⟩ := st
  have helt : e < s.heap.objs.size := Heap.lt_size he
  have hilt : it < s.heap.objs.size := by obtain ⟨_, x, _⟩ := hit; exact Heap.lt_size x
  refine wpAny_pyNext_enum_item he hit p.isList (x := u) (by simpa using hu) hei fun h' ho hit' hT hsz hk => ?_
  refine ⟨_, rfl, wpAny_letOwnedTupleGo_enum (s := { s with heap := h', toks := s.toks + 1 }) ho fun h2 he2 hs2 => ?_⟩
  have I1 : Inv X pins σ (upd H s.heap.objs.size (.tup [.int (i : Int), x])) { s with heap := s.heap.push { cls := .type "tuple", data := .seq #[.int (i : Int) s.toks, u] }, toks := s.toks + 1 } :=
   I.laid (fun b o e => Heap.get?_push_of_some _ e) (Nat.le_refl _) ⟨by rw [PySem.sizeLine_eq]; show 2 ≤ _; lia, [.int (i : Int) s.toks, u], .cons ⟨_, rfl⟩ (.cons ru .nil), IsTup.new s.heap _⟩
  have hfr : ∀ b ∈ [e, it], upd H s.heap.objs.size (.tup [.int (i : Int), x]) b = none := fun b hb => by
   have hlt : b < s.heap.objs.size := by
    rcases List.mem_cons.mp hb with z | z
    ·rw [z]; exact helt
    ·rw [List.mem_singleton.mp z]; exact hilt
   rw [AN (Nat.ne_of_lt hlt)]
   exact (hf b hb).1
  refine ⟨.ref s.heap.objs.size, upd H s.heap.objs.size (.tup [.int (i : Int), x]), ?_, rfl, ⟨_, x, rfl, I.fresh, rfl, fun ys hy => by rw [I.list_inj hy hq]; exact hx⟩, ⟨⟨_, by simpa using he2⟩, hit'.at fun o y => (hs2.2 it (Ne.symm hei)).trans y⟩, hfr⟩
  refine (show Inv X pins σ (upd H s.heap.objs.size (.tup [.int (i : Int), x])) { ({ s with heap := s.heap.push { cls := .type "tuple", data := .seq #[.int (i : Int) s.toks, u] }, toks := s.toks + 1 } : Shared) with heap := h2, toks := s.toks + 1 } from ?_)
  refine Inv.turnedL (its := [e, it]) I1 (fun b o hb eb => ?_) fun b hb => ⟨hfr b hb, (hf b hb).2⟩
  have hbe : b ≠ e := fun z => hb (by simp [z])
  have hbi : b ≠ it := fun z => hb (by simp [z])
  refine (hs2.2 b hbe).trans ?_
  by_cases hbs : b = s.heap.objs.size
  ·subst hbs
   have : (s.heap.push { cls := .type "tuple", data := .seq #[.int (i : Int) s.toks, u] }).get? s.heap.objs.size = some { cls := .type "tuple", data := .seq #[.int (i : Int) s.toks, u] } := Heap.get?_push_size _ rfl
   have eb := this.symm.trans eb
   rw [← eb]
   exact hT
  ·exact hk b o hbe hbi ((Heap.get?_push_ne _ _ _ hbs).symm.trans eb)
 done := by
  intro X hP hw hK hc i pins s σ H E I hf st hg
  subst hP hw hK
  obtain ⟨xs, hq, hx⟩ := hg
  obtain ⟨its, rv, p, hz⟩ := I.list hq
  have hl := rv.length
  obtain ⟨⟨old, he⟩, hit⟩ := st
  refine wpAny_pyNext_enum_end (I.ok.hd hc) he hit p.isList (Array.getElem?_eq_none (by simp; lia)) fun h' eb => ⟨rfl, ?_⟩
  obtain ⟨f0, f1, f2, f3, f4, f5⟩ := hf it (by simp)
  exact I.turned (t' := s.toks) (fun b o hb e => eb b o hb e) f0 f1 f3 f4 f5
 self := fun _ _ _ _ _ st h => by
  obtain ⟨⟨old, he⟩, _⟩ := st
  exact wpAny_pyIter_enum he h
section
variable {X : Cx}
noncomputable def IL (K : PySem.W.Frag) (ta : TA) : TI := fun σ H R => ta σ H fun vs H1 => ∃ a, vs = [.ref a] ∧ (∃ xs, SqL K H1 a xs) ∧ R (Ite K a) H1
theorem Q6 {l : Expr} {ta : TA} {p pos tp : Pos} {elts : List Expr} {k : Nat} (hg : Gl X "enumerate") (hm : X.mg "enumerate" = none) (ha : PA X [l] ta) (hs : starEach [l] X.env = [(false, eval l X.env)] := by rfl) :
  PI X (.Tuple elts k tp) (.Call (.Name "enumerate" p) [l] [] pos) (IL X.K ta) := by
 intro pins s σ H R I h
 refine Call_ (KB I hg hm boot_enumerate (PyProof.Rows.callWith_type1 (thn (ha pos pins s σ H _ I h) fun us s1 ⟨vs, H1, I1, r1, q1⟩ => ?_) hs rfl))
 obtain ⟨a, e, ⟨xs, hq⟩, q⟩ := q1
 subst e
 cases r1 with
 | cons r rr =>
  cases rr
  cases r
  obtain ⟨its, rv, pl, hz⟩ := I1.list hq
  refine call_enumerate_list pl.isList fun h' he hit hsz hk => ?_
  have I2 : Inv X pins σ H1 { s1 with heap := h' } := I1.kept (t' := s1.toks) hk
  refine wpAny_pyIter_enum he ?_
  refine ⟨_, [s1.heap.objs.size + 1, s1.heap.objs.size], _, _, H1, rfl, I2, Uy a _ _ (Nat.succ_ne_self _), ⟨⟨_, by simpa using he⟩, hit⟩, fun b hb => ?_, q⟩
  have hb' : s1.heap.objs.size ≤ b := by
   rcases List.mem_cons.mp hb with z | z
   ·rw [z]; exact Nat.le_succ _
   ·rw [List.mem_singleton.mp z]; exact Nat.le_refl _
  exact I1.fpOk hb' (I1.hok.fresh hb')
theorem bv : bootBuiltins "all" = some (.builtin "all") := by decide +kernel
noncomputable def PD (K : PySem.W.Frag) : List V → Hp → VK → Prop := fun xs H Q => ∃ a, xs = [.ref a] ∧ ∃ ys : List Bool, SqL K H a (ys.map V.bl) ∧ Q (.bl (ys.all id)) H
theorem Vs (hc : X.calm = true) : B1 X (.builtin "all") (PD X.K) := by
 intro pins s σ H xs us Q I r h
 obtain ⟨a, rfl, ys, hq, q⟩ := h
 obtain ⟨u, rfl, rx⟩ := vals1 r
 cases rx
 obtain ⟨its, r', pl, hz⟩ := I.list hq
 have hlen := r'.length
 rw [List.length_map] at hlen
 have hlt : a < s.heap.objs.size := by obtain ⟨o, n, e, _⟩ := id pl; exact Heap.lt_size e
 refine call_all_walk (wpAny_pyIter_list pl.isList ?_)
 refine ⟨s.heap.objs.size, _, _, _, _, _, fun i => ys.getD i true, rfl, Walks.list (A := X.A.in1) (I.ok.hd hc) _ a (Nat.ne_of_lt hlt) its.toArray, ⟨⟨_, Heap.get?_push_size _ rfl, rfl, rfl⟩, pl.isList.at fun o e => Heap.get?_push_of_some _ e⟩, ?_, fun h' tk hk => ?_⟩
 ·intro i v s Q E hP hQ
  have hv : its[i]? = some v := by simpa using hP
  obtain ⟨hi, _⟩ := List.getElem?_eq_some_iff.mp hv
  obtain ⟨u, e1, e2⟩ := r'.get (i := i) (x := V.bl (ys.getD i true)) (by rw [List.getElem?_map, List.getElem?_eq_getElem (by lia), List.getD_eq_getElem?_getD, List.getElem?_eq_getElem (by lia)]; rfl)
  have e3 : v = u := Option.some.inj (hv.symm.trans e1)
  have e2 : u = Value.bool (ys.getD i true) := e2
  rw [e3, e2]
  exact wpAny_truthy_bool hQ
 ·have I2 : Inv X pins σ H { s with heap := h', toks := tk } := I.kept fun b o e => hk b o (fun z => by
   rw [List.mem_singleton.mp z] at e
   exact absurd (Heap.lt_size e) (Nat.lt_irrefl _)) (Heap.get?_push_of_some _ e)
  refine ⟨.bl (ys.all id), H, I2, ?_, q⟩
  show Value.bool _ = Value.bool _
  congr 1
  rw [show its.toArray.size = ys.length by simp [hlen], Bool.eq_iff_iff]
  simp only [List.all_eq_true, List.mem_range, id]
  constructor
  ·intro hh b hb
   obtain ⟨i, hi, rfl⟩ := List.getElem_of_mem hb
   have := hh i hi
   rwa [List.getD_eq_getElem?_getD, List.getElem?_eq_getElem hi] at this
  ·intro hh i hi
   rw [List.getD_eq_getElem?_getD, List.getElem?_eq_getElem hi]
   exact hh _ (List.getElem_mem hi)
end
theorem Nn {K : PySem.W.Frag} {a : Addr} {xs : List V} {g : TG} {tb : TS} {D : Ip} {σ : St} {H : Hp} (Pv : Nat → St → Hp → Prop) (h0 : Pv 0 σ H) (hl : ∀ i σ H, i ≤ xs.length → Pv i σ H → SqL K H a xs)
  (hs : ∀ i x σ H p H', xs[i]? = some x → Pv i σ H → H p = none → AI H H' → H' p = some (.tup [.int (i : Int), x]) → g (.ref p) σ H' fun σ2 H2 => tb { D with nx := Pv (i + 1), ct := Pv (i + 1), bk := D.nx } σ2 H2) (hd : ∀ σ H, Pv xs.length σ H → D.nx σ H) :
  ∃ W : Nat → Nat → St → Hp → Prop, (∃ m, W 0 m σ H) ∧ ∀ i m σ H, W i m σ H →
   ((Ite K a).stop i H ∧ D.nx σ H) ∨ ((Ite K a).go i H ∧ ∃ N : St → Hp → Prop, (∀ σ' H', N σ' H' → ∃ m', m' < m ∧ W (i + 1) m' σ' H') ∧ ∀ x H', (Ite K a).yld i H x H' → g x σ H' fun σ2 H2 => tb { D with nx := N, ct := N, bk := D.nx } σ2 H2) := by
 refine ⟨fun i m σ H => m = xs.length - i ∧ i ≤ xs.length ∧ Pv i σ H, ⟨xs.length, by simp, Nat.zero_le _, h0⟩, ?_⟩
 rintro i m σ H ⟨rfl, hi, p⟩
 have q := hl i σ H hi p
 by_cases hlt : i < xs.length
 ·refine .inr ⟨⟨xs, xs[i], q, by simp [hlt]⟩, Pv (i + 1), fun σ' H' p' => ⟨xs.length - (i + 1), by lia, rfl, hlt, p'⟩, fun x H' y => ?_⟩
  obtain ⟨pp, z, rfl, hn, rfl, y⟩ := y
  exact hs i z σ _ _ _ (y xs q) p hn (A4 hn) AQ
 ·have e : i = xs.length := by lia
  subst e
  exact .inl ⟨⟨xs, q, Nat.le_refl _⟩, hd σ H p⟩
end L2
namespace TG
open PySem L2
theorem RU {d r : Int} (hd : 0 ≤ d) (hr : 0 < r) : Int.gcd r (d.fmod r) = Int.gcd d r := by
 rw [Int.fmod_eq_emod_of_nonneg d (Int.le_of_lt hr)]
 obtain ⟨n, rfl⟩ := Int.eq_ofNat_of_zero_le hd
 obtain ⟨m, rfl⟩ := Int.eq_ofNat_of_zero_le (Int.le_of_lt hr)
 show Nat.gcd m (((n % m : Nat) : Int)).natAbs = Nat.gcd n m
 rw [Int.natAbs_natCast, Nat.gcd_comm n m, Nat.gcd_rec m n, Nat.gcd_comm]
theorem UJ {d r : Int} (hr : 0 < r) : 0 ≤ d.fmod r ∧ d.fmod r < r := ⟨Int.fmod_nonneg_of_pos d hr, Int.fmod_lt_of_pos d hr⟩
theorem Qg {d : Int} (hd : 0 ≤ d) : ((Int.gcd d 0 : Nat) : Int) = d := by
 rw [Int.gcd_zero_right]; lia
structure KU (t b x y : Int) : Prop where
 ex : ∃ g : Int, g ≠ 0 ∧ t = g * x ∧ b = g * y
 pos : 0 < y
 one : Int.gcd x y = 1
theorem KU.eq {t b x y : Int} (h : KU t b x y) : t * y = b * x := by
 obtain ⟨g, _, rfl, rfl⟩ := h.ex
 rw [Int.mul_assoc, Int.mul_assoc, Int.mul_comm x y]
theorem Js {g x : Int} (hg : g ≠ 0) : x.natAbs ≤ (g * x).natAbs := by
 rw [Int.natAbs_mul]
 exact Nat.le_mul_of_pos_left _ (by lia)
theorem KU.absx {t b x y : Int} (h : KU t b x y) : x.natAbs ≤ t.natAbs := by
 obtain ⟨g, hg, rfl, rfl⟩ := h.ex
 exact Js hg
theorem KU.absy {t b x y : Int} (h : KU t b x y) : y.natAbs ≤ b.natAbs := by
 obtain ⟨g, hg, rfl, rfl⟩ := h.ex
 exact Js hg
theorem Xq (t b : Int) : Int.gcd (if t < 0 then -t else t) (if b < 0 then -b else b) = Int.gcd t b := by
 split <;> split <;> simp [Int.gcd_neg, Int.neg_gcd]
theorem aT {t b : Int} (hb : b ≠ 0) {d : Int} (hd : d = if b < 0 then -((Int.gcd t b : Nat) : Int) else ((Int.gcd t b : Nat) : Int)) : KU t b (t.fdiv d) (b.fdiv d) ∧ d ≠ 0 := by
 have hg : 0 < Int.gcd t b := Int.gcd_pos_of_ne_zero_right t hb
 have hd0 : d ≠ 0 := by rw [hd]; split <;> lia
 have habs : d.natAbs = Int.gcd t b := by rw [hd]; split <;> lia
 have h1 : d ∣ t := by
  rw [← Int.natAbs_dvd, habs]; exact Int.gcd_dvd_left ..
 have h2 : d ∣ b := by
  rw [← Int.natAbs_dvd, habs]; exact Int.gcd_dvd_right ..
 obtain ⟨x, hx⟩ := h1
 obtain ⟨y, hy⟩ := h2
 have ex : t.fdiv d = x := by rw [hx, Int.mul_fdiv_cancel_left _ hd0]
 have ey : b.fdiv d = y := by rw [hy, Int.mul_fdiv_cancel_left _ hd0]
 rw [ex, ey]
 refine ⟨⟨⟨d, hd0, hx, hy⟩, ?_, ?_⟩, hd0⟩
 ·rcases Int.lt_trichotomy y 0 with h | h | h
  ·exfalso
   by_cases hbn : b < 0
   ·rw [if_pos hbn] at hd
    have : 0 < d * y := Int.mul_pos_of_neg_of_neg (by lia) h
    lia
   ·rw [if_neg hbn] at hd
    have : d * y < 0 := Int.mul_neg_of_pos_of_neg (by lia) h
    lia
  ·rw [h, Int.mul_zero] at hy; exact absurd hy hb
  ·exact h
 ·have e : Int.gcd t b = d.natAbs * Int.gcd x y := by
   conv => lhs; rw [hx, hy]
   exact Int.gcd_mul_left ..
  rw [habs] at e
  have e2 : Int.gcd t b * 1 = Int.gcd t b * Int.gcd x y := by rw [Nat.mul_one]; exact e
  exact (Nat.eq_of_mul_eq_mul_left hg e2).symm
theorem R7 (x y : Int) : Int.gcd (if x < 0 then -x else x) y = Int.gcd x y := by
 split <;> simp [Int.neg_gcd]
theorem XD {t u x y f : Int} (hy : 0 < y) (hu : 0 < u) (E : t * y = u * x) : f * y ≤ x ↔ f * u ≤ t := by
 constructor
 ·intro h
  have h1 := Int.mul_le_mul_of_nonneg_left h (Int.le_of_lt hu)
  rw [← E] at h1
  have h2 : (f * u) * y ≤ t * y := by
   have e : (f * u) * y = u * (f * y) := by grind
   rw [e]; exact h1
  exact Int.le_of_mul_le_mul_right h2 hy
 ·intro h
  have h1 := Int.mul_le_mul_of_nonneg_right h (Int.le_of_lt hy)
  rw [E] at h1
  have h2 : u * (f * y) ≤ u * x := by
   have e : u * (f * y) = (f * u) * y := by grind
   rw [e]; exact h1
  exact Int.le_of_mul_le_mul_left h2 hu
theorem Xk {t u x y f : Int} (hy : 0 < y) (hu : 0 < u) (E : t * y = u * x) : x ≤ f * y ↔ t ≤ f * u := by
 constructor
 ·intro h
  have h1 := Int.mul_le_mul_of_nonneg_left h (Int.le_of_lt hu)
  rw [← E] at h1
  have h2 : t * y ≤ (f * u) * y := by
   have e : (f * u) * y = u * (f * y) := by grind
   rw [e]; exact h1
  exact Int.le_of_mul_le_mul_right h2 hy
 ·intro h
  have h1 := Int.mul_le_mul_of_nonneg_right h (Int.le_of_lt hy)
  rw [E] at h1
  have h2 : u * x ≤ u * (f * y) := by
   have e : u * (f * y) = (f * u) * y := by grind
   rw [e]; exact h1
  exact Int.le_of_mul_le_mul_left h2 hu
structure G where
 p : Int
 f : Int
 h : Int
noncomputable abbrev G.vs (g : G) : List V := [.int g.p, .int g.f, .int g.h]
structure OkG (g : G) : Prop where
 p0 : -1000 ≤ g.p
 p1 : g.p ≤ 1000
 f0 : -1000 ≤ g.f
 fh : g.f ≤ g.h
 h1 : g.h ≤ 1000
noncomputable def At (H : Hp) (as : List Addr) (gs : List G) : Prop := Paired (fun a g => H a = some (.tup (G.vs g))) as gs
theorem At.same {H H' : Hp} {as : List Addr} {gs : List G} (h : At H as gs) (s : AI H H') : At H' as gs := by
 unfold At at *
 induction h with
 | nil => exact .nil
 | cons e _ ih => exact .cons (s _ _ e) ih
theorem At.upd {H : Hp} {l : Addr} {o u : HO} {as : List Addr} {gs : List G} (h : At H as gs) (hl : H l = some o) (hm : ∀ ys, o ≠ .tup ys) : At (L2.upd H l u) as gs := by
 unfold At at *
 induction h with
 | nil => exact .nil
 | cons e _ ih => exact .cons (Xb e hl hm) ih
theorem At.snoc {H : Hp} {as : List Addr} {gs : List G} {a : Addr} {g : G} (h : At H as gs) (e : H a = some (.tup (G.vs g))) : At H (as ++ [a]) (gs ++ [g]) := Paired.snoc h e
theorem At.len {H : Hp} {as : List Addr} {gs : List G} (h : At H as gs) : as.length = gs.length := Paired.length h
theorem Av {xs : List Int} {i : Int} (h0 : 0 ≤ i) (h1 : i < xs.length) : atI (xs.map V.int) i = some (V.int (xs.getD i.toNat 0)) := by
 obtain ⟨n, rfl⟩ := Int.eq_ofNat_of_zero_le h0
 have hn : n < xs.length := by lia
 refine IV ?_
 rw [List.getElem?_map, List.getElem?_eq_getElem hn, Int.toNat_natCast, List.getD_eq_getElem?_getD, List.getElem?_eq_getElem hn]; rfl
theorem JJ {α : Type} [DecidableEq α] : ∀ {xs ys : List α}, xs.Nodup → (∀ x ∈ xs, x ∈ ys) → xs.length ≤ ys.length
 | [], _, _, _ => Nat.zero_le _
 | x :: xs, ys, hn, hs => by
  obtain ⟨h1, h2⟩ := List.nodup_cons.mp hn
  have hx := hs x List.mem_cons_self
  have ih := JJ (ys := ys.erase x) h2 fun y hy => (List.mem_erase_of_ne (fun (e : y = x) => h1 (by rw [← e]; exact hy))).mpr (hs y (List.mem_cons_of_mem _ hy))
  have := List.length_erase_of_mem hx
  have hp : 0 < ys.length := List.length_pos_of_mem hx
  rw [List.length_cons]
  lia
theorem Sl {near span o : Int} {used : List Int} (hk : (used.length : Int) < span) (h : ∀ t : Nat, t ≤ used.length → near + (o + t) % span ∈ used) : False := by
 have hnd : ((List.range (used.length + 1)).map fun t : Nat => near + (o + t) % span).Nodup := by
  refine List.pairwise_iff_getElem.mpr fun a b ha hb hab => ?_
  rw [List.length_map, List.length_range] at ha hb
  rw [List.getElem_map, List.getElem_map, List.getElem_range, List.getElem_range]
  intro e
  have e1 : (o + (a : Int)) % span = (o + (b : Int)) % span := by lia
  have e2 := Int.emod_emod_of_dvd (o + (b : Int)) (Int.dvd_refl span)
  have d : span ∣ (o + (b : Int)) - (o + (a : Int)) := Int.dvd_of_emod_eq_zero (Int.emod_eq_emod_iff_emod_sub_eq_zero.mp e1.symm)
  have e3 : (o + (b : Int)) - (o + (a : Int)) = (b : Int) - a := by lia
  rw [e3] at d
  have := Int.le_of_dvd (by lia) d
  lia
 have hl := JJ (ys := used) hnd fun x hx => by
  obtain ⟨t, ht, rfl⟩ := List.mem_map.mp hx
  exact h t (by have := List.mem_range.mp ht; lia)
 rw [List.length_map, List.length_range] at hl
 lia
noncomputable def B7 (a b c : G) : Prop := a.h * (c.p - b.p) + c.h * (b.p - a.p) < b.f * (c.p - a.p)
noncomputable def CD (a b c : G) : Prop := b.h * (c.p - a.p) < a.f * (c.p - b.p) + c.f * (b.p - a.p)
instance (a b c : G) : Decidable (B7 a b c) := by unfold B7; exact inferInstance
instance (a b c : G) : Decidable (CD a b c) := by unfold CD; exact inferInstance
noncomputable def OV (a b c : G) : Prop := B7 a b c ∨ CD a b c
instance (a b c : G) : Decidable (OV a b c) := by unfold OV; exact inferInstance
noncomputable def Xd (a b c : G) : Str := if B7 a b c then "foot" else if CD a b c then "head" else ""
theorem At.zip {H : Hp} {as : List Addr} {gs : List G} (h : At H as gs) : ∃ zs : List (Addr × List Int), as = zs.map (·.1) ∧ zs.map (·.2) = gs.map (fun g => [g.p, g.f, g.h]) ∧ ∀ z ∈ zs, z.2 ≠ [] ∧ H z.1 = some (.tup (z.2.map V.int)) := by
 unfold At at h
 induction h with
 | nil => exact ⟨[], rfl, rfl, fun _ h => absurd h (by simp)⟩
 | @cons a g as gs e _ ih =>
  obtain ⟨zs, h1, h2, h3⟩ := ih
  refine ⟨(a, [g.p, g.f, g.h]) :: zs, by rw [h1]; rfl, by rw [List.map_cons, h2]; rfl, fun z hz => ?_⟩
  rcases List.mem_cons.mp hz with rfl | hz
  ·exact ⟨by simp, e⟩
  ·exact h3 z hz
theorem At.of_zip {H : Hp} : ∀ {zs : List (Addr × List Int)} {gs : List G}, zs.map (·.2) = gs.map (fun g => [g.p, g.f, g.h]) → (∀ z ∈ zs, H z.1 = some (.tup (z.2.map V.int))) → At H (zs.map (·.1)) gs
 | [], [], _, _ => .nil
 | [], _ :: _, e, _ => by cases e
 | _ :: _, [], e, _ => by cases e
 | z :: zs, g :: gs, e, h => by
  rw [List.map_cons, List.map_cons, List.cons.injEq] at e
  refine .cons ?_ (At.of_zip e.2 fun y hy => h y (List.mem_cons_of_mem _ hy))
  have := h z List.mem_cons_self
  rw [e.1] at this
  exact this
noncomputable def toG (t : List Int) : G := ⟨t.getD 0 0, t.getD 1 0, t.getD 2 0⟩
theorem XR (gs : List G) : (gs.map fun g => [g.p, g.f, g.h]).map toG = gs := by
 rw [List.map_map]
 have : (toG ∘ fun g : G => [g.p, g.f, g.h]) = id := by funext g; rfl
 rw [this, List.map_id]
theorem lex_p {g g' : G} (hne : g.p ≠ g'.p) (h : HT.lexLt [g.p, g.f, g.h] [g'.p, g'.f, g'.h] = true) : g.p < g'.p := by
 rw [HT.lexLt_cons, if_neg hne] at h
 exact of_decide_eq_true h
noncomputable def Asc (gs : List G) : Prop := gs.Pairwise fun a b => a.p < b.p
section
variable {X : Cx}
noncomputable def Ef (K : PySem.W.Frag) : List V → Hp → VK → Prop := fun xs H Q => ∃ l, xs = [.ref l] ∧ ∃ (as : List Addr) (gs : List G), SqL K H l (as.map V.ref) ∧ At H as gs ∧ (gs.map G.p).Nodup ∧ gs.length < 64 ∧
 ∀ (D : Addr) (H' : Hp) (as' : List Addr) (gs' : List G), H D = none → AI H H' → H' D = some (.lst (as'.map V.ref)) → At H' as' gs' → gs'.Perm gs → Asc gs' → Q (.ref D) H'
theorem Bn : B1 X (.builtin "sorted") (Ef X.K) := Q2.weak fun xs H Q ⟨l, e, as, gs, hl, ga, nd, h64, q⟩ => by
 obtain ⟨zs, h1, h2, h3⟩ := ga.zip
 have hlen : zs.length = gs.length := by
  have := congrArg List.length h2
  simpa using this
 refine ⟨l, e, zs, ?_, fun z hz => ⟨(h3 z hz).1, SqT.of (h3 z hz).2⟩, ?_, by lia, fun D H' zs' hD hs hat hp hsrt => ?_⟩
 ·rw [h1, List.map_map] at hl
  exact hl
 ·rw [h2]
  refine List.pairwise_map.mpr ((List.pairwise_map.mp nd).imp fun {a b} h z => h ?_)
  simp at z
  exact z.1
 ·have hm : (zs'.map (·.2)).Perm (gs.map fun g => [g.p, g.f, g.h]) := by rw [← h2]; exact hp.map _
  have hg : ((zs'.map (·.2)).map toG).Perm gs := by
   have := hm.map toG
   rw [XR] at this
   exact this
  have hback : zs'.map (·.2) = ((zs'.map (·.2)).map toG).map fun g => [g.p, g.f, g.h] := by
   rw [List.map_map]
   conv => lhs; rw [← List.map_id (zs'.map (·.2))]
   refine List.map_congr_left fun t ht => ?_
   obtain ⟨g, _, rfl⟩ := List.mem_map.mp (hm.mem_iff.mp ht)
   rfl
  refine q D H' (zs'.map (·.1)) ((zs'.map (·.2)).map toG) hD hs ?_ ?_ hg ?_
  ·rw [hat, List.map_map]; rfl
  ·exact At.of_zip hback fun z hz => hs.get (h3 z (hp.mem_iff.mp hz)).2
  ·have ndp : ((((zs'.map (·.2)).map toG)).map G.p).Nodup := ((hg.map G.p).nodup_iff).mpr nd
   have hsr : (((zs'.map (·.2)).map toG)).Pairwise fun a b => HT.lexLt [a.p, a.f, a.h] [b.p, b.f, b.h] = true := by
    have : ((((zs'.map (·.2)).map toG)).map fun g : G => [g.p, g.f, g.h]).Pairwise fun a b => HT.lexLt a b = true := by
     rw [← hback]
     exact List.pairwise_map.mpr hsrt
    exact List.pairwise_map.mp this
   have hne := List.pairwise_map.mp ndp
   exact (hsr.and hne).imp fun {a b} h => lex_p h.2 h.1
end
noncomputable def Ml (sg : List G) (i j k : Nat) : Prop := i < j ∧ j < k ∧ ∃ a b c, sg[i]? = some a ∧ sg[j]? = some b ∧ sg[k]? = some c ∧ OV a b c
noncomputable def Dz (sg : List G) : Prop := ∀ i j k, ¬ Ml sg i j k
noncomputable def A7 (sg : List G) (i j k : Nat) : Prop := ∀ i' j' k', Ml sg i' j' k' → i < i' ∨ (i = i' ∧ (j < j' ∨ (j = j' ∧ k ≤ k')))
noncomputable def XH (sg : List G) (i j k : Nat) : Prop := Ml sg i j k ∧ A7 sg i j k
inductive KS (gs : List G) (t : List Int) : Prop where
 | no (sg : List G) (hp : sg.Perm gs) (ha : Asc sg) (hn : Dz sg) (ht : t = [])
 | yes (sg : List G) (hp : sg.Perm gs) (ha : Asc sg) (i j k : Nat) (a b c : G) (hf : XH sg i j k) (h1 : sg[i]? = some a) (h2 : sg[j]? = some b) (h3 : sg[k]? = some c) (ht : t = [a.p, b.p, c.p])
theorem DE : ∀ {xs ys : List G}, Asc xs → Asc ys → xs.Perm ys → xs = ys
 | [], ys, _, _, h => (List.nil_perm.mp h).symm
 | x :: xs, [], _, _, h => absurd h (by intro z; have := z.length_eq; simp at this)
 | x :: xs, y :: ys, h1, h2, h => by
  obtain ⟨a1, a2⟩ := List.pairwise_cons.mp h1
  obtain ⟨b1, b2⟩ := List.pairwise_cons.mp h2
  have e : x = y := by
   have hx : x ∈ y :: ys := h.mem_iff.mp List.mem_cons_self
   have hy : y ∈ x :: xs := h.mem_iff.mpr List.mem_cons_self
   rcases List.mem_cons.mp hx with e | hx
   ·exact e
   ·rcases List.mem_cons.mp hy with e | hy
    ·exact e.symm
    ·have := a1 y hy
     have := b1 x hx
     lia
  subst e
  rw [DE a2 b2 ((List.perm_cons x).mp h)]
theorem KS.perm {gs gs' : List G} {t : List Int} (h : KS gs t) (hp : gs.Perm gs') : KS gs' t := by
 cases h with
 | no sg hp' ha hn ht => exact .no sg (hp'.trans hp) ha hn ht
 | yes sg hp' ha i j k a b c hf h1 h2 h3 ht => exact .yes sg (hp'.trans hp) ha i j k a b c hf h1 h2 h3 ht
theorem At.get {H : Hp} {as : List Addr} {gs : List G} (h : At H as gs) {i : Nat} {g : G} (hg : gs[i]? = some g) : ∃ a, as[i]? = some a ∧ H a = some (.tup (G.vs g)) := by
 unfold At at h
 induction h generalizing i with
 | nil => simp at hg
 | cons e _ ih =>
  cases i with
  | zero => simp at hg; subst hg; exact ⟨_, rfl, e⟩
  | succ i => exact ih (by simpa using hg)
theorem Cb {as : List Addr} {i : Nat} {a : Addr} (h : as[i]? = some a) : atI (as.map V.ref) (i : Int) = some (V.ref a) := IV (by rw [List.getElem?_map, h]; rfl)
theorem Ml.lt {sg : List G} {i j k : Nat} (h : Ml sg i j k) : k < sg.length := by
 obtain ⟨_, _, a, b, c, _, _, h3, _⟩ := h
 exact (List.getElem?_eq_some_iff.mp h3).1
theorem Vw (sg : List G) : A7 sg 0 0 0 := fun i j k h => by
 have := h.1
 lia
theorem au {sg : List G} {i : Nat} (h : A7 sg i 0 0) : A7 sg i (i + 1) 0 := fun i' j' k' hb => by
 have h1 := h _ _ _ hb
 have h2 := hb.1
 lia
theorem na_in {sg : List G} {i j : Nat} (h : A7 sg i j 0) : A7 sg i j (j + 1) := fun i' j' k' hb => by
 have h1 := h _ _ _ hb
 have h2 := hb.2.1
 lia
theorem U0 {sg : List G} {i j k : Nat} (hk : sg.length ≤ k) (h : A7 sg i j k) : A7 sg i (j + 1) 0 := fun i' j' k' hb => by
 have h1 := h _ _ _ hb
 have h2 := hb.lt
 lia
theorem Tt {sg : List G} {i j : Nat} (hj : sg.length ≤ j) (h : A7 sg i j 0) : A7 sg (i + 1) 0 0 := fun i' j' k' hb => by
 have h1 := h _ _ _ hb
 have h2 := hb.lt
 have h3 := hb.2.1
 have h4 := hb.1
 lia
theorem XU {sg : List G} {i j k : Nat} (h : A7 sg i j k) (hn : ¬ Ml sg i j k) : A7 sg i j (k + 1) := fun i' j' k' hb => by
 have h1 := h _ _ _ hb
 by_cases e : i = i' ∧ j = j' ∧ k = k'
 ·obtain ⟨rfl, rfl, rfl⟩ := e
  exact absurd hb hn
 ·lia
theorem na_no {sg : List G} (h : A7 sg sg.length 0 0) : Dz sg := fun i j k hb => by
 have h1 := h _ _ _ hb
 have h2 := hb.lt
 have h3 := hb.1
 have h4 := hb.2.1
 lia
noncomputable def Pas (a b c d pl f h : Int) : Prop := f * (b * d) ≤ a * d + pl * c * b ∧ a * d + pl * c * b ≤ h * (b * d)
instance (a b c d pl f h : Int) : Decidable (Pas a b c d pl f h) := by unfold Pas; exact inferInstance
structure Thr where
 a : Int
 b : Int
 c : Int
 d : Int
noncomputable abbrev Thr.vs (t : Thr) : List V := [.int t.a, .int t.b, .int t.c, .int t.d]
noncomputable abbrev Thr.pas (t : Thr) (g : G) : Prop := Pas t.a t.b t.c t.d g.p g.f g.h
noncomputable abbrev Thr.gap (t : Thr) (p h : Int) : Int := t.a * t.d + t.c * p * t.b - h * t.b * t.d
structure OkT (t : Thr) : Prop where
 a1 : t.a.natAbs ≤ 999999999
 b1 : t.b.natAbs ≤ 999999999
 c1 : t.c.natAbs ≤ 999999999
 d1 : t.d.natAbs ≤ 999999999
 b0 : 0 < t.b
 d0 : 0 < t.d
 g1 : Int.gcd t.a t.b = 1
 g2 : Int.gcd t.c t.d = 1
theorem XF {i : Int} {n : Nat} (h : i.natAbs ≤ n) (hn : n ≤ 10 ^ 60) : Md i := Nat.le_trans h hn
inductive Wm (H : Hp) (D : Addr) (gs : List G) : Prop where
 | mk (q : Addr) (t : List Int) (e : H D = some (.tup [.str "bar", .ref q])) (e2 : H q = some (.tup (t.map V.int))) (ne : t ≠ []) (f : KS gs t)
inductive MU (H : Hp) (D : Addr) (gs : List G) : Prop where
 | throw (q : Addr) (t : Thr) (e : H D = some (.tup [.str "throw", .ref q])) (e2 : H q = some (.tup t.vs)) (ok : OkT t) (all : ∀ g ∈ gs, t.pas g)
 | bar (b : Wm H D gs)
noncomputable abbrev endA (up : Bool) (g : G) : Int := if up then g.f else g.h
noncomputable abbrev endB (up : Bool) (g : G) : Int := if up then g.h else g.f
inductive OX (up : Bool) (H : Hp) (D : Addr) (gs : List G) : Prop where
 | throw (q : Addr) (t : Thr) (x y : G) (e : H D = some (.tup [.str "throw", .ref q, .int x.p, .int y.p])) (e2 : H q = some (.tup t.vs)) (ok : OkT t) (all : ∀ g ∈ gs, t.pas g) (hx : x ∈ gs) (hy : y ∈ gs) (lt : x.p < y.p) (tx : t.gap x.p (endA up x) = 0) (ty : t.gap y.p (endB up y) = 0)
 | bar (b : Wm H D gs)
theorem atLn {P : Int → Prop} {ls : List Int} {e : Int} (h0 : 0 ≤ e) (h1 : e < ls.length) (h : ∀ x ∈ ls, P x) : ∃ v : Int, atI (ls.map V.int) e = some (V.int v) ∧ P v := by
 refine ⟨_, Av h0 h1, ?_⟩
 have hl : e.toNat < ls.length := by lia
 rw [List.getD_eq_getElem?_getD, List.getElem?_eq_getElem hl]
 exact h _ (List.getElem_mem hl)
noncomputable def Im (u w m : Int) (g : G) : Prop := g.f * m ≤ u + w * g.p ∧ u + w * g.p ≤ g.h * m
theorem Vx {t : Thr} {g : G} : t.pas g ↔ Im (t.a * t.d) (t.c * t.b) (t.b * t.d) g := by
 show Pas _ _ _ _ _ _ _ ↔ _
 unfold Pas Im
 rw [show g.p * t.c * t.b = t.c * t.b * g.p by grind]
theorem SA {a b c : G} {u w m : Int} (h1 : a.p < b.p) (h2 : b.p < c.p) (hm : 0 < m) (hb : OV a b c) (la : Im u w m a) (lb : Im u w m b) (lc : Im u w m c) : False := by
 obtain ⟨a1, a2⟩ := la
 obtain ⟨b1, b2⟩ := lb
 obtain ⟨c1, c2⟩ := lc
 have e : (u + w * b.p) * (c.p - a.p) = (u + w * a.p) * (c.p - b.p) + (u + w * c.p) * (b.p - a.p) := by grind
 rcases hb with hb | hb
 ·unfold B7 at hb
  have k1 := Int.mul_lt_mul_of_pos_right hb hm
  have k2 := Int.mul_le_mul_of_nonneg_right b1 (show 0 ≤ c.p - a.p by lia)
  have k3 := Int.mul_le_mul_of_nonneg_right a2 (show 0 ≤ c.p - b.p by lia)
  have k4 := Int.mul_le_mul_of_nonneg_right c2 (show 0 ≤ b.p - a.p by lia)
  rw [e] at k2
  have e1 : (a.h * (c.p - b.p) + c.h * (b.p - a.p)) * m = a.h * m * (c.p - b.p) + c.h * m * (b.p - a.p) := by grind
  have e2 : b.f * (c.p - a.p) * m = b.f * m * (c.p - a.p) := by grind
  rw [e1, e2] at k1
  lia
 ·unfold CD at hb
  have k1 := Int.mul_lt_mul_of_pos_right hb hm
  have k2 := Int.mul_le_mul_of_nonneg_right b2 (show 0 ≤ c.p - a.p by lia)
  have k3 := Int.mul_le_mul_of_nonneg_right a1 (show 0 ≤ c.p - b.p by lia)
  have k4 := Int.mul_le_mul_of_nonneg_right c1 (show 0 ≤ b.p - a.p by lia)
  rw [e] at k2
  have e1 : (a.f * (c.p - b.p) + c.f * (b.p - a.p)) * m = a.f * m * (c.p - b.p) + c.f * m * (b.p - a.p) := by grind
  have e2 : b.h * (c.p - a.p) * m = b.h * m * (c.p - a.p) := by grind
  rw [e1, e2] at k1
  lia
theorem DR {gs : List G} (ha : Asc gs) {i j : Nat} {x y : G} (hx : gs[i]? = some x) (hy : gs[j]? = some y) (hij : i < j) : x.p < y.p := by
 obtain ⟨h1, rfl⟩ := List.getElem?_eq_some_iff.mp hx
 obtain ⟨h2, rfl⟩ := List.getElem?_eq_some_iff.mp hy
 exact List.pairwise_iff_getElem.mp ha i j h1 h2 hij
theorem Nw {gs : List G} (ok : ∀ g ∈ gs, OkG g) {x y : G} (hx : x ∈ gs) (hy : y ∈ gs) (lt : x.p < y.p)
  (least : ∀ x' ∈ gs, ∀ y' ∈ gs, x'.p < y'.p → (y.h - x.f) * (y'.p - x'.p) ≤ (y'.h - x'.f) * (y.p - x.p))
  (uniq : ∀ g ∈ gs, ∀ g' ∈ gs, g.p = g'.p → g = g')
  (nb1 : ∀ m ∈ gs, m.p < x.p → ¬ B7 m x y) (nb2 : ∀ m ∈ gs, y.p < m.p → ¬ CD x y m) :
  ∀ g ∈ gs, Im (x.f * y.p - y.h * x.p) (y.h - x.f) (y.p - x.p) g := by
 intro g hg
 have og := ok g hg
 have ox := ok x hx
 have oy := ok y hy
 have gfh := og.fh
 unfold Im
 have eL : x.f * y.p - y.h * x.p + (y.h - x.f) * g.p = x.f * (y.p - g.p) + y.h * (g.p - x.p) := by grind
 rw [eL]
 rcases Int.lt_trichotomy g.p x.p with h | h | h
 ·have k1 := least g hg y hy (by lia)
  refine ⟨by grind, ?_⟩
  have k2 := nb1 g hg h
  unfold B7 at k2
  rw [Int.not_lt] at k2
  grind
 ·have := uniq g hg x hx h
  subst this
  refine ⟨by grind, ?_⟩
  have := Int.mul_le_mul_of_nonneg_right gfh (show 0 ≤ y.p - g.p by lia)
  grind
 ·rcases Int.lt_trichotomy g.p y.p with h' | h' | h'
  ·have k1 := least g hg y hy h'
   have k2 := least x hx g hg h
   exact ⟨by grind, by grind⟩
  ·have := uniq g hg y hy h'
   subst this
   refine ⟨?_, by grind⟩
   have := Int.mul_le_mul_of_nonneg_right gfh (show 0 ≤ g.p - x.p by lia)
   grind
  ·have k1 := least x hx g hg (by lia)
   refine ⟨?_, by grind⟩
   have k2 := nb2 g hg h'
   unfold CD at k2
   rw [Int.not_lt] at k2
   grind
theorem At.fresh {H : Hp} {as : List Addr} {gs : List G} {D : Addr} {o : HO} (h : At H as gs) (hD : ∀ ys, H D ≠ some (.tup ys)) : At (L2.upd H D o) as gs := by
 induction h with
 | nil => exact .nil
 | cons e _ ih =>
  refine .cons ?_ ih
  rw [AN (fun z => hD _ (z ▸ e))]
  exact e
theorem Rf {K : PySem.W.Frag} {a : Addr} {as : List Addr} {gs : List G} {tc : TT} {caps : St} {D : Addr} {H1 : Hp} {Q : Hp → Prop} (P : G → Bool) (hl : SqL K H1 a (as.map V.ref)) (ga : At H1 as gs) (hD : H1 D = none) (hz : gs.length ≤ 1000)
  (ht : ∀ v g H (R : Bool → Hp → Prop), g ∈ gs → AI H1 H → H v = some (.tup (G.vs g)) → R (P g) H → tc (some (.ref v) :: caps) H R)
  (hd : ∀ H as', AI H1 H → H D = some (.lst (as'.map V.ref)) → At H as' (gs.filter P) → Q H) : Gr (L0 0) tc caps (Itl K a) D H1 Q := by
 have la := ga.len
 refine CA (xs := as.map V.ref) (fun i ys H => ∃ as' : List Addr, ys = as'.map V.ref ∧ AI H1 H ∧ H D = some (.lst ys) ∧ At H as' ((gs.take i).filter P) ∧ as'.length ≤ i) ⟨[], rfl, A4 hD, AQ, .nil, Nat.le_refl _⟩ (fun _ _ H _ ⟨_, _, s1, _⟩ => s1.seq hl) ?_ ?_
 ·rintro i x ys H hx ⟨as', rfl, s1, e1, g1, l1⟩
  have hi : i < gs.length := by
   have := (List.getElem?_eq_some_iff.mp hx).1
   rw [List.length_map] at this
   lia
  obtain ⟨v, hv, t1⟩ := ga.get (List.getElem?_eq_getElem hi)
  have ex : x = V.ref v := by
   rw [List.getElem?_map, hv] at hx
   exact (Option.some.inj hx).symm
  subst ex
  have et : gs.take (i + 1) = gs.take i ++ [gs[i]] := List.take_succ_eq_append_getElem hi
  refine ht v gs[i] H _ (List.getElem_mem hi) s1 (s1.get t1) ?_
  have hlen : (as.map V.ref).length = gs.length := by rw [List.length_map, la]
  by_cases hp : P gs[i] = true
  ·rw [if_pos hp]
   refine ⟨_, rfl, e1, by rw [List.length_map, PySem.sizeLine_eq]; lia, _, by lia, rfl, by lia, as' ++ [v], by rw [List.map_append]; rfl, s1.updFresh hD, AQ, ?_, by rw [List.length_append]; simp; lia⟩
   rw [et, List.filter_append, List.filter_cons, if_pos hp, List.filter_nil]
   exact (g1.snoc (s1.get t1)).fresh (fun ys z => by rw [e1] at z; cases z)
  ·rw [if_neg hp]
   refine ⟨_, by lia, rfl, by lia, as', rfl, s1, e1, ?_, by lia⟩
   rw [et, List.filter_append, List.filter_cons, if_neg hp, List.filter_nil, List.append_nil]
   exact g1
 ·rintro ys H ⟨as', rfl, s1, e1, g1, l1⟩
  rw [List.length_map, la, List.take_length] at g1
  exact hd H as' s1 e1 g1
structure Run where
 g : G
 rest : List G
 t : Thr
noncomputable abbrev Run.all (r : Run) : List G := r.g :: r.rest
noncomputable abbrev Run.last (r : Run) : G := r.rest.getLastD r.g
noncomputable def J0 (H : Hp) (a : Addr) (r : Run) : Prop := ∃ q, H a = some (.tup [.int r.g.p, .int r.last.p, .ref q]) ∧ H q = some (.tup r.t.vs) ∧ OkT r.t ∧ ∀ g ∈ r.all, r.t.pas g
noncomputable def Far : List Run → Prop
 | r :: r' :: rs => ¬ Dz (r.all ++ [r'.g]) ∧ Far (r' :: rs)
 | _ => True
theorem J0.same {H H' : Hp} {a : Addr} {r : Run} (h : J0 H a r) (s : AI H H') : J0 H' a r := by
 obtain ⟨q, e1, e2, e3⟩ := h
 exact ⟨q, s.get e1, s.get e2, e3⟩
structure TF (H : Hp) (D : Addr) (as : List Addr) (rs : List Run) (gs : List G) : Prop where
 eD : H D = some (.lst (as.map V.ref))
 at_ : Paired (J0 H) as rs
 perm : (rs.flatMap Run.all).Perm gs
 asc : Asc (rs.flatMap Run.all)
 far : Far rs
theorem Paired.get {α β : Type} {F : α → β → Prop} {xs : List α} {ys : List β} (h : Paired F xs ys) {i : Nat} {y : β} (hy : ys[i]? = some y) : ∃ x, xs[i]? = some x ∧ F x y := by
 induction h generalizing i with
 | nil => exact absurd hy (by simp)
 | cons e _ ih =>
  cases i with
  | zero =>
   rw [List.getElem?_cons_zero] at hy ⊢
   cases hy
   exact ⟨_, rfl, e⟩
  | succ i =>
   rw [List.getElem?_cons_succ] at hy ⊢
   exact ih hy
theorem Ki {rs : List Run} {i : Nat} (hi : i < rs.length) : rs.flatMap Run.all = (rs.take i).flatMap Run.all ++ (rs[i].all ++ (rs.drop (i + 1)).flatMap Run.all) := by
 conv => lhs; rw [← List.take_append_drop i rs, List.flatMap_append, List.drop_eq_getElem_cons hi, List.flatMap_cons]
theorem WE {rs : List Run} {i : Nat} (hi : i < rs.length) : ((rs.take (i + 1)).flatMap Run.all).length = ((rs.take i).flatMap Run.all).length + rs[i].all.length := by
 rw [List.take_succ_eq_append_getElem hi, List.flatMap_append, List.length_append]
 simp
theorem Vy (r : Run) : r.last ∈ r.all := by
 unfold Run.last
 cases h : r.rest with
 | nil => simp [Run.all]
 | cons x xs =>
  have : r.rest.getLastD r.g = (x :: xs).getLast (by simp) := by rw [h]; rfl
  rw [h] at this
  show (x :: xs).getLastD r.g ∈ _
  rw [this, Run.all, h]
  exact List.mem_cons_of_mem _ (List.getLast_mem _)
theorem VC (r : Run) : r.all[r.all.length - 1]? = some r.last := by
 show (r.g :: r.rest)[(r.g :: r.rest).length - 1]? = _
 rw [← List.getLast?_eq_getElem?]
 unfold Run.last
 cases r.rest with
 | nil => rfl
 | cons x xs => simp [List.getLast?_cons, List.getLastD_cons]
theorem TU {pre post : List G} {r : Run} (ha : Asc (pre ++ (r.all ++ post))) : (r.all ++ post).filter (fun g => decide (g.p ≤ r.last.p)) = r.all := by
 have h2 := (List.pairwise_append.mp ha).2.1
 obtain ⟨h3, _, h5⟩ := List.pairwise_append.mp h2
 rw [List.filter_append]
 have e1 : r.all.filter (fun g => decide (g.p ≤ r.last.p)) = r.all := by
  refine List.filter_eq_self.mpr fun g hg => decide_eq_true ?_
  obtain ⟨i, hi, rfl⟩ := List.getElem_of_mem hg
  have hl := VC r
  rcases (by lia : i < r.all.length - 1 ∨ i = r.all.length - 1) with c | c
  ·exact Int.le_of_lt (DR h3 (List.getElem?_eq_getElem hi) hl c)
  ·subst c
   rw [List.getElem?_eq_getElem hi] at hl
   rw [Option.some.inj hl]
   exact Int.le_refl _
 have e2 : post.filter (fun g => decide (g.p ≤ r.last.p)) = [] := by
  refine List.filter_eq_nil_iff.mpr fun g hg => ?_
  have := h5 r.last (Vy r) g hg
  exact fun z => absurd (of_decide_eq_true z) (by lia)
 rw [e1, e2, List.append_nil]
theorem UO (rs : List Run) : rs.length ≤ (rs.flatMap Run.all).length := by
 induction rs with
 | nil => exact Nat.le_refl _
 | cons r rs ih =>
  rw [List.flatMap_cons, List.length_append, List.length_cons]
  have : r.all.length = r.rest.length + 1 := rfl
  lia
theorem MK {xs : List G} (h : xs.length ≤ 2) : Dz xs := fun i j k hb => by
 have := hb.lt
 have := hb.1
 have := hb.2.1
 lia
theorem TZ {gs : List G} (ha : Asc gs) {u w m : Int} (hm : 0 < m) (h : ∀ g ∈ gs, Im u w m g) : Dz gs := fun i j k ⟨h1, h2, a, b, c, e1, e2, e3, hb⟩ =>
 SA (DR ha e1 e2 h1) (DR ha e2 e3 h2) hm hb (h _ (List.mem_of_getElem? e1)) (h _ (List.mem_of_getElem? e2)) (h _ (List.mem_of_getElem? e3))
theorem At.takeG {H : Hp} {as : List Addr} {gs : List G} (h : At H as gs) (n : Nat) : At H (as.take n) (gs.take n) := by
 induction h generalizing n with
 | nil => rw [List.take_nil, List.take_nil]; exact .nil
 | cons e t ih =>
  cases n with
  | zero => exact .nil
  | succ n => exact .cons e (ih n)
theorem F6 {xs : List V} {i : Nat} : Pl xs none (some (i : Int)) = xs.take i := by
 unfold Pl
 rw [HT.sIx_nat, HT.sIx_none, List.drop_zero, Nat.sub_zero]
 by_cases h : i ≤ xs.length
 ·rw [Nat.min_eq_left h]
 ·rw [Nat.min_eq_right (by lia), List.take_length, List.take_of_length_le (by lia)]
theorem At.append {H : Hp} {as bs : List Addr} {gs hs : List G} (h : At H as gs) (h' : At H bs hs) : At H (as ++ bs) (gs ++ hs) := by
 induction h with
 | nil => exact h'
 | cons e _ ih => exact .cons e ih
theorem NV {K : PySem.W.Frag} {a : Addr} {as : List Addr} {gs : List G} {te : TE} {tc : TT} {caps : St} {D : Addr} {H1 : Hp} {Q : Hp → Prop} (P : G → Bool) (f : G → V) (hl : SqL K H1 a (as.map V.ref)) (ga : At H1 as gs) (hD : H1 D = none) (hz : gs.length ≤ 1000)
  (ht : ∀ v g H (R : Bool → Hp → Prop), g ∈ gs → AI H1 H → H v = some (.tup (G.vs g)) → R (P g) H → tc (some (.ref v) :: caps) H R)
  (he : ∀ v g H (R : VK), g ∈ gs → AI H1 H → H v = some (.tup (G.vs g)) → R (f g) H → te (some (.ref v) :: caps) H R)
  (hd : ∀ H, AI H1 H → H D = some (.lst ((gs.filter P).map f)) → Q H) : Gr te tc caps (Itl K a) D H1 Q := by
 have la := ga.len
 refine CA (xs := as.map V.ref) (fun i ys H => ys = ((gs.take i).filter P).map f ∧ AI H1 H ∧ H D = some (.lst ys)) ⟨rfl, A4 hD, AQ⟩ (fun _ _ H _ ⟨_, s1, _⟩ => s1.seq hl) ?_ ?_
 ·rintro i x ys H hx ⟨rfl, s1, e1⟩
  have hi : i < gs.length := by
   have := (List.getElem?_eq_some_iff.mp hx).1
   rw [List.length_map] at this
   lia
  obtain ⟨v, hv, t1⟩ := ga.get (List.getElem?_eq_getElem hi)
  have ex : x = V.ref v := by
   rw [List.getElem?_map, hv] at hx
   exact (Option.some.inj hx).symm
  subst ex
  have et : gs.take (i + 1) = gs.take i ++ [gs[i]] := List.take_succ_eq_append_getElem hi
  have hlen : (as.map V.ref).length = gs.length := by rw [List.length_map, la]
  have hle : (((gs.take i).filter P).map f).length ≤ i := by
   rw [List.length_map]
   exact Nat.le_trans (List.length_filter_le _ _) (List.length_take_le _ _)
  refine ht v gs[i] H _ (List.getElem_mem hi) s1 (s1.get t1) ?_
  by_cases hp : P gs[i] = true
  ·rw [if_pos hp]
   refine he v gs[i] H _ (List.getElem_mem hi) s1 (s1.get t1) ?_
   refine ⟨e1, by rw [PySem.sizeLine_eq]; lia, _, by lia, rfl, by lia, ?_, s1.updFresh hD, AQ⟩
   rw [et, List.filter_append, List.filter_cons, if_pos hp, List.filter_nil, List.map_append]
   rfl
  ·rw [if_neg hp]
   refine ⟨_, by lia, rfl, by lia, ?_, s1, e1⟩
   rw [et, List.filter_append, List.filter_cons, if_neg hp, List.filter_nil, List.append_nil]
 ·rintro ys H ⟨rfl, s1, e1⟩
  rw [List.length_map, la, List.take_length] at e1
  exact hd H s1 e1
structure NZ (H : Hp) (D : Addr) (gs : List G) (L q : Addr) (t : Thr) (sg : List G) : Prop where
 eD : H D = some (.tup [.ref L, .ref q])
 eL : H L = some (.lst (((sg.filter fun g => decide (t.pas g)).map G.p).map V.int))
 eq : H q = some (.tup t.vs)
 ok : OkT t
 hp : sg.Perm gs
 ha : Asc sg
 most : ∀ u w m : Int, 0 < m → ∀ ps : List G, ps.Sublist sg → (∀ g ∈ ps, Im u w m g) → ps.length ≤ (sg.filter fun g => decide (t.pas g)).length
theorem NZ.same {H H' : Hp} {D : Addr} {gs : List G} {L q : Addr} {t : Thr} {sg : List G} (h : NZ H D gs L q t sg) (s : AI H H') : NZ H' D gs L q t sg := ⟨s.get h.eD, s.get h.eL, s.get h.eq, h.ok, h.hp, h.ha, h.most⟩
theorem N1 : ∀ (xs : List (Int × Int)), xs ≠ [] → (∀ x ∈ xs, 0 < x.2) → ∃ x ∈ xs, ∀ y ∈ xs, x.1 * y.2 ≤ y.1 * x.2
 | [], h, _ => absurd rfl h
 | [x], _, _ => ⟨x, by simp, fun y hy => by rw [List.mem_singleton.mp hy]; exact Int.le_refl _⟩
 | x :: z :: xs, _, hp => by
  obtain ⟨y, hy, hm⟩ := N1 (z :: xs) (by simp) (fun w hw => hp w (List.mem_cons_of_mem _ hw))
  have px := hp x (by simp)
  have py := hp y (List.mem_cons_of_mem _ hy)
  by_cases h : x.1 * y.2 ≤ y.1 * x.2
  ·refine ⟨x, by simp, fun w hw => ?_⟩
   rcases List.mem_cons.mp hw with e | e
   ·rw [e]; exact Int.le_refl _
   ·have pw := hp w hw
    have k1 := Int.mul_le_mul_of_nonneg_right h (show 0 ≤ w.2 by lia)
    have k2 := Int.mul_le_mul_of_nonneg_right (hm w e) (show 0 ≤ x.2 by lia)
    have k3 : x.1 * w.2 * y.2 ≤ w.1 * x.2 * y.2 := by grind
    exact Int.le_of_mul_le_mul_right k3 py
  ·refine ⟨y, List.mem_cons_of_mem _ hy, fun w hw => ?_⟩
   rcases List.mem_cons.mp hw with e | e
   ·rw [e]; lia
   ·exact hm w e
theorem Ie {gs : List G} (ha : Asc gs) {i j : Nat} {x y : G} (hx : gs[i]? = some x) (hy : gs[j]? = some y) (h : x.p < y.p) : i < j := by
 rcases Nat.lt_trichotomy i j with c | c | c
 ·exact c
 ·subst c
  rw [hx] at hy
  cases hy
  lia
 ·have := DR ha hy hx c
  lia
theorem IW {gs : List G} (ha : Asc gs) (nb : Dz gs) {a b c : G} (h1 : a ∈ gs) (h2 : b ∈ gs) (h3 : c ∈ gs) (l1 : a.p < b.p) (l2 : b.p < c.p) : ¬ OV a b c := by
 obtain ⟨i, hi⟩ := List.mem_iff_getElem?.mp h1
 obtain ⟨j, hj⟩ := List.mem_iff_getElem?.mp h2
 obtain ⟨k, hk⟩ := List.mem_iff_getElem?.mp h3
 exact fun hb => nb i j k ⟨Ie ha hi hj l1, Ie ha hj hk l2, a, b, c, hi, hj, hk, hb⟩
theorem OS {gs : List G} (ha : Asc gs) {x y : G} (hx : x ∈ gs) (hy : y ∈ gs) (e : x.p = y.p) : x = y := by
 obtain ⟨i, hi⟩ := List.mem_iff_getElem?.mp hx
 obtain ⟨j, hj⟩ := List.mem_iff_getElem?.mp hy
 rcases Nat.lt_trichotomy i j with c | c | c
 ·have := DR ha hi hj c
  lia
 ·subst c
  rw [hi] at hj
  exact Option.some.inj hj
 ·have := DR ha hj hi c
  lia
theorem QX {K : PySem.W.Frag} {a : Addr} {as : List Addr} {gs : List G} {te : TE} {caps : St} {D : Addr} {H1 : Hp} {Q : Hp → Prop} (F : Hp → V → G → Prop) (fs : ∀ H H' v g, AI H H' → F H v g → F H' v g)
  (fd : ∀ H v g xs ys, H D = some (.lst xs) → F H v g → F (L2.upd H D (.lst ys)) v g) (hl : SqL K H1 a (as.map V.ref)) (ga : At H1 as gs) (hD : H1 D = none) (hz : gs.length ≤ 1000)
  (he : ∀ v g H (R : VK), g ∈ gs → AI H1 H → H v = some (.tup (G.vs g)) → (∀ y H', AI H H' → F H' y g → R y H') → te (some (.ref v) :: caps) H R)
  (hd : ∀ H ys, AI H1 H → H D = some (.lst ys) → Paired (F H) ys gs → Q H) : Gr te G8 caps (Itl K a) D H1 Q := by
 have la := ga.len
 have hlen : (as.map V.ref).length = gs.length := by rw [List.length_map, la]
 refine CA (xs := as.map V.ref) (fun i ys H => AI H1 H ∧ H D = some (.lst ys) ∧ Paired (F H) ys (gs.take i)) ⟨A4 hD, AQ, .nil⟩ (fun _ _ H _ ⟨s1, _⟩ => s1.seq hl) ?_ ?_
 ·rintro i x ys H hx ⟨s1, e1, pr⟩
  have hi : i < gs.length := by
   have := (List.getElem?_eq_some_iff.mp hx).1
   lia
  obtain ⟨v, hv, t1⟩ := ga.get (List.getElem?_eq_getElem hi)
  have ex : x = V.ref v := by
   rw [List.getElem?_map, hv] at hx
   exact (Option.some.inj hx).symm
  subst ex
  have et : gs.take (i + 1) = gs.take i ++ [gs[i]] := List.take_succ_eq_append_getElem hi
  have hle : ys.length ≤ i := by
   rw [Paired.length pr]
   exact List.length_take_le _ _
  unfold G8
  dsimp only
  rw [if_pos rfl]
  refine he v gs[i] H _ (List.getElem_mem hi) s1 (s1.get t1) fun y H' s2 fy => ?_
  refine ⟨s2.get e1, by rw [PySem.sizeLine_eq]; lia, _, by lia, rfl, by lia, (s1.trans s2).updFresh hD, AQ, ?_⟩
  rw [et]
  have e2 := s2.get e1
  have pr2 := Paired.mapP pr fun v g h => fd _ _ _ _ (ys ++ [y]) e2 (fs _ _ _ _ s2 h)
  have app : ∀ {α β : Type} {F : α → β → Prop} {l : List α} {r : List β} {x : α} {y : β}, Paired F l r → F x y → Paired F (l ++ [x]) (r ++ [y]) := by
   intro α β F l r x y h hxy
   induction h with
   | nil => exact .cons hxy .nil
   | cons h1 _ ih => exact .cons h1 ih
  exact app pr2 (fd _ _ _ _ _ e2 fy)
 ·rintro ys H ⟨s1, e1, pr⟩
  rw [hlen, List.take_length] at pr
  exact hd H ys s1 e1 pr
theorem Paired.eq_map {α β : Type} {f : β → α} : ∀ {xs : List α} {ys : List β}, Paired (fun x y => x = f y) xs ys → xs = ys.map f
 | _, _, .nil => rfl
 | _, _, .cons h t => by rw [List.map_cons, ← Paired.eq_map t, h]
theorem Sg {p0 h0 p1 h1 a b c d : Int} (lt : p0 < p1) (L1 : KU (h0 * (p1 - p0) - p0 * (h1 - h0)) (p1 - p0) a b) (L2 : KU (h1 - h0) (p1 - p0) c d) :
  (∀ g : G, (⟨a, b, c, d⟩ : Thr).pas g ↔ Im (h0 * p1 - h1 * p0) (h1 - h0) (p1 - p0) g) ∧ (⟨a, b, c, d⟩ : Thr).gap p0 h0 = 0 ∧ (⟨a, b, c, d⟩ : Thr).gap p1 h1 = 0 := by
 have e1 := L1.eq
 have e2 := L2.eq
 have hb := L1.pos
 have hd := L2.pos
 have hbd : 0 < b * d := Int.mul_pos hb hd
 have hS : 0 < p1 - p0 := by lia
 have eU : h0 * (p1 - p0) - p0 * (h1 - h0) = h0 * p1 - h1 * p0 := by grind
 rw [eU] at e1
 have key : ∀ p, (p1 - p0) * (a * d + c * b * p) = (b * d) * (h0 * p1 - h1 * p0 + (h1 - h0) * p) := fun p => by grind
 refine ⟨fun g => ?_, ?_, ?_⟩
 ·rw [Vx]
  unfold Im
  show g.f * (b * d) ≤ a * d + c * b * g.p ∧ a * d + c * b * g.p ≤ g.h * (b * d) ↔ _
  have k := key g.p
  constructor
  ·rintro ⟨q1, q2⟩
   have r1 := Int.mul_le_mul_of_nonneg_left q1 (Int.le_of_lt hS)
   have r2 := Int.mul_le_mul_of_nonneg_left q2 (Int.le_of_lt hS)
   rw [k] at r1 r2
   refine ⟨Int.le_of_mul_le_mul_left (a := b * d) ?_ hbd, Int.le_of_mul_le_mul_left (a := b * d) ?_ hbd⟩
   ·rw [show b * d * (g.f * (p1 - p0)) = (p1 - p0) * (g.f * (b * d)) by grind]; exact r1
   ·rw [show b * d * (g.h * (p1 - p0)) = (p1 - p0) * (g.h * (b * d)) by grind]; exact r2
  ·rintro ⟨q1, q2⟩
   have r1 := Int.mul_le_mul_of_nonneg_left q1 (Int.le_of_lt hbd)
   have r2 := Int.mul_le_mul_of_nonneg_left q2 (Int.le_of_lt hbd)
   rw [← k] at r1 r2
   refine ⟨Int.le_of_mul_le_mul_left (a := p1 - p0) ?_ hS, Int.le_of_mul_le_mul_left (a := p1 - p0) ?_ hS⟩
   ·rw [show (p1 - p0) * (g.f * (b * d)) = b * d * (g.f * (p1 - p0)) by grind]; exact r1
   ·rw [show (p1 - p0) * (g.h * (b * d)) = b * d * (g.h * (p1 - p0)) by grind]; exact r2
 ·show a * d + c * p0 * b - h0 * b * d = 0
  have k := key p0
  have hz : (p1 - p0) * (a * d + c * p0 * b - h0 * b * d) = 0 := by grind
  rcases Int.mul_eq_zero.mp hz with z | z
  ·lia
  ·exact z
 ·show a * d + c * p1 * b - h1 * b * d = 0
  have k := key p1
  have hz : (p1 - p0) * (a * d + c * p1 * b - h1 * b * d) = 0 := by grind
  rcases Int.mul_eq_zero.mp hz with z | z
  ·lia
  ·exact z
theorem US {p0 h0 p1 h1 a b c d : Int} (b0 : p0.natAbs ≤ 1000) (b1 : h0.natAbs ≤ 1000) (b2 : p1.natAbs ≤ 1000) (b3 : h1.natAbs ≤ 1000) (L1 : KU (h0 * (p1 - p0) - p0 * (h1 - h0)) (p1 - p0) a b) (L2 : KU (h1 - h0) (p1 - p0) c d) : OkT ⟨a, b, c, d⟩ := by
 have m1 := CQ (m := 1000) (n := 2000) b1 (show (p1 - p0).natAbs ≤ 2000 by clear L1 L2 b1 b3; lia)
 have m2 := CQ (m := 1000) (n := 2000) b0 (show (h1 - h0).natAbs ≤ 2000 by clear L1 L2 m1 b0 b2; lia)
 have t1 : (h0 * (p1 - p0) - p0 * (h1 - h0)).natAbs ≤ 1000 * 2000 + 1000 * 2000 := Nat.le_trans (Int.natAbs_sub_le _ _) (Nat.add_le_add m1 m2)
 have s1 : (p1 - p0).natAbs ≤ 2000 := by clear m1 m2 t1 L1 L2 b1 b3; lia
 have s2 : (h1 - h0).natAbs ≤ 2000 := by clear m1 m2 t1 L1 L2 b0 b2; lia
 exact ⟨Nat.le_trans L1.absx (Nat.le_trans t1 (by decide)), Nat.le_trans L1.absy (Nat.le_trans s1 (by decide)), Nat.le_trans L2.absx (Nat.le_trans s2 (by decide)), Nat.le_trans L2.absy (Nat.le_trans s1 (by decide)), L1.pos, L2.pos, L1.one, L2.one⟩
noncomputable def LeR (x y u v : G) : Prop := (y.h - x.f) * (v.p - u.p) ≤ (v.h - u.f) * (y.p - x.p)
theorem LeR.refl (x y : G) : LeR x y x y := Int.le_refl _
theorem LeR.trans {x y u v u' v' : G} (l0 : x.p < y.p) (l1 : u.p < v.p) (l2 : u'.p < v'.p) (h1 : LeR x y u v) (h2 : LeR u v u' v') : LeR x y u' v' := by
 unfold LeR at *
 have r1 := Int.mul_le_mul_of_nonneg_right h1 (show 0 ≤ v'.p - u'.p by lia)
 have r2 := Int.mul_le_mul_of_nonneg_right h2 (show 0 ≤ y.p - x.p by lia)
 refine Int.le_of_mul_le_mul_left (a := v.p - u.p) ?_ (by lia)
 have e1 : (v.p - u.p) * ((y.h - x.f) * (v'.p - u'.p)) = (y.h - x.f) * (v.p - u.p) * (v'.p - u'.p) := by grind
 have e2 : (v.p - u.p) * ((v'.h - u'.f) * (y.p - x.p)) = (v'.h - u'.f) * (v.p - u.p) * (y.p - x.p) := by grind
 have e3 : (v.h - u.f) * (y.p - x.p) * (v'.p - u'.p) = (v.h - u.f) * (v'.p - u'.p) * (y.p - x.p) := by grind
 rw [e1, e2]
 rw [e3] at r1
 exact Int.le_trans r1 r2
structure W9 (H : Hp) (D : Addr) (gs : List G) (q : Addr) (t : Thr) (x y : G) : Prop where
 eD : H D = some (.tup [.ref q, .int x.p, .int y.p])
 eq : H q = some (.tup t.vs)
 ok : OkT t
 all : ∀ g ∈ gs, t.pas g
 hx : x ∈ gs
 hy : y ∈ gs
 lt : x.p < y.p
 tx : t.gap x.p x.f = 0
 ty : t.gap y.p y.h = 0
theorem KY {gs : List G} (ha : Asc gs) (ok : ∀ g ∈ gs, OkG g) {x y : G} (hx : x ∈ gs) (hy : y ∈ gs) (lt : x.p < y.p) (least : ∀ x' ∈ gs, ∀ y' ∈ gs, x'.p < y'.p → LeR x y x' y') (hn : ¬ ∀ g ∈ gs, Im (x.f * y.p - y.h * x.p) (y.h - x.f) (y.p - x.p) g) : ¬ Dz gs := fun nb =>
 hn (Nw ok hx hy lt least (fun g hg g' hg' e => OS ha hg hg' e) (fun m hm l z => IW ha nb hm hx hy l lt (.inl z)) (fun m hm l z => IW ha nb hx hy hm lt l (.inr z)))
theorem Q1 {gs sg : List G} (hp : sg.Perm gs) (ha : Asc sg) (hb : ¬ Dz sg) {t : List Int} (h : KS gs t) : t ≠ [] := by
 rcases h with ⟨sg', hp', ha', hn, rfl⟩ | ⟨_, _, _, _, _, _, _, _, _, _, _, _, _, rfl⟩
 ·have e := DE ha' ha (hp'.trans hp.symm)
  subst e
  exact absurd hn hb
 ·simp
noncomputable def Cj (g : G) : G := ⟨g.p, -g.h, -g.f⟩
noncomputable def SR (t : Thr) : Thr := ⟨-t.a, t.b, -t.c, t.d⟩
theorem XB {g : G} (h : OkG g) : OkG (Cj g) := by
 obtain ⟨h1, h2, h3, h4, h5⟩ := h
 exact ⟨h1, h2, by show -1000 ≤ -g.h; lia, by show -g.h ≤ -g.f; lia, by show -g.f ≤ 1000; lia⟩
theorem WU {t : Thr} (h : OkT t) : OkT (SR t) := by
 obtain ⟨h1, h2, h3, h4, h5, h6, h7, h8⟩ := h
 exact ⟨by show (-t.a).natAbs ≤ _; lia, h2, by show (-t.c).natAbs ≤ _; lia, h4, h5, h6, by show Int.gcd (-t.a) t.b = 1; rw [Int.neg_gcd]; exact h7, by show Int.gcd (-t.c) t.d = 1; rw [Int.neg_gcd]; exact h8⟩
theorem WT {t : Thr} {g : G} : (SR t).pas g ↔ t.pas (Cj g) := by
 show Pas (-t.a) t.b (-t.c) t.d g.p g.f g.h ↔ Pas t.a t.b t.c t.d g.p (-g.h) (-g.f)
 unfold Pas
 have e1 : -t.a * t.d + g.p * -t.c * t.b = -(t.a * t.d + g.p * t.c * t.b) := by grind
 have e2 : -g.h * (t.b * t.d) = -(g.h * (t.b * t.d)) := by grind
 have e3 : -g.f * (t.b * t.d) = -(g.f * (t.b * t.d)) := by grind
 rw [e1, e2, e3]
 generalize t.a * t.d + g.p * t.c * t.b = A
 generalize g.h * (t.b * t.d) = B
 generalize g.f * (t.b * t.d) = C
 constructor <;> (rintro ⟨h1, h2⟩; exact ⟨by lia, by lia⟩)
theorem Sf {t : Thr} {p h : Int} (z : t.gap p (-h) = 0) : (SR t).gap p h = 0 := by
 have z : t.a * t.d + t.c * p * t.b - -h * t.b * t.d = 0 := z
 show -t.a * t.d + -t.c * p * t.b - h * t.b * t.d = 0
 grind
theorem Ww {gs : List G} (h : Asc gs) : Asc (gs.map Cj) := by
 unfold Asc
 rw [List.pairwise_map]
 exact h
theorem Us {a b c : G} : OV (Cj a) (Cj b) (Cj c) ↔ OV a b c := by
 have e1 : B7 (Cj a) (Cj b) (Cj c) ↔ CD a b c := by
  show -a.f * (c.p - b.p) + -c.f * (b.p - a.p) < -b.h * (c.p - a.p) ↔ b.h * (c.p - a.p) < a.f * (c.p - b.p) + c.f * (b.p - a.p)
  have q1 : -a.f * (c.p - b.p) + -c.f * (b.p - a.p) = -(a.f * (c.p - b.p) + c.f * (b.p - a.p)) := by grind
  have q2 : -b.h * (c.p - a.p) = -(b.h * (c.p - a.p)) := by grind
  rw [q1, q2]
  generalize a.f * (c.p - b.p) + c.f * (b.p - a.p) = A
  generalize b.h * (c.p - a.p) = B
  constructor <;> (intro h; lia)
 have e2 : CD (Cj a) (Cj b) (Cj c) ↔ B7 a b c := by
  show -b.f * (c.p - a.p) < -a.h * (c.p - b.p) + -c.h * (b.p - a.p) ↔ a.h * (c.p - b.p) + c.h * (b.p - a.p) < b.f * (c.p - a.p)
  have q1 : -a.h * (c.p - b.p) + -c.h * (b.p - a.p) = -(a.h * (c.p - b.p) + c.h * (b.p - a.p)) := by grind
  have q2 : -b.f * (c.p - a.p) = -(b.f * (c.p - a.p)) := by grind
  rw [q1, q2]
  generalize a.h * (c.p - b.p) + c.h * (b.p - a.p) = A
  generalize b.f * (c.p - a.p) = B
  constructor <;> (intro h; lia)
 unfold OV
 rw [e1, e2]
 exact Or.comm
theorem Tf {gs : List G} (h : Dz gs) : Dz (gs.map Cj) := fun i j k ⟨h1, h2, a, b, c, e1, e2, e3, hb⟩ => by
 rw [List.getElem?_map] at e1 e2 e3
 obtain ⟨a', f1, rfl⟩ := Option.map_eq_some_iff.mp e1
 obtain ⟨b', f2, rfl⟩ := Option.map_eq_some_iff.mp e2
 obtain ⟨c', f3, rfl⟩ := Option.map_eq_some_iff.mp e3
 exact h i j k ⟨h1, h2, a', b', c', f1, f2, f3, Us.mp hb⟩
theorem J0.updL {H : Hp} {a R : Addr} {r : Run} {xs ys : List V} (h : J0 H a r) (hR : H R = some (.lst xs)) : J0 (L2.upd H R (.lst ys)) a r := by
 obtain ⟨q, e1, e2, e3⟩ := h
 exact ⟨q, by rw [AN (Be e1 hR (by intro z; cases z))]; exact e1, by rw [AN (Be e2 hR (by intro z; cases z))]; exact e2, e3⟩
theorem Rg : ∀ {rs : List Run} {r r' : Run}, Far (rs ++ [r]) → ¬ Dz (r.all ++ [r'.g]) → Far (rs ++ [r] ++ [r'])
 | [], _, _, _, h => ⟨h, trivial⟩
 | [a], r, r', h1, h => ⟨h1.1, h, trivial⟩
 | a :: b :: rs, r, r', h1, h => ⟨h1.1, Rg (rs := b :: rs) h1.2 h⟩
theorem Rk : ∀ {rs : List Run} {r r' : Run}, Far (rs ++ [r]) → r.g = r'.g → Far (rs ++ [r'])
 | [], _, _, _, _ => trivial
 | [a], r, r', h1, e => ⟨by rw [← e]; exact h1.1, trivial⟩
 | a :: b :: rs, r, r', h1, e => ⟨h1.1, Rk (rs := b :: rs) h1.2 e⟩
structure Shr (H' : Hp) (R S L : Addr) (as1 : List Addr) (sg : List G) (ra : List Addr) (rs : List Run) (bs : List Addr) (cur : List G) (tv : V) (i : Nat) : Prop where
 eR : H' R = some (.lst (ra.map V.ref))
 at_ : Paired (J0 H') ra rs
 eL : H' L = some (.lst (bs.map V.ref))
 gb : At H' bs cur
 neL : L ≠ R
 eS : H' S = some (.lst (as1.map V.ref))
 gS : At H' as1 sg
 neS : S ≠ R
 sp : rs.flatMap Run.all ++ cur = sg.take i
 th : (cur = [] ∧ rs = [] ∧ i = 0) ∨ ∃ q t g rest, tv = .ref q ∧ H' q = some (.tup t.vs) ∧ OkT t ∧ (∀ x ∈ cur, t.pas x) ∧ cur = g :: rest ∧ Far (rs ++ [⟨g, rest, t⟩])
theorem Shr.same {H H' : Hp} {R S L : Addr} {as1 : List Addr} {sg : List G} {ra : List Addr} {rs : List Run} {bs : List Addr} {cur : List G} {tv : V} {i : Nat} (h : Shr H R S L as1 sg ra rs bs cur tv i) (s : AI H H') : Shr H' R S L as1 sg ra rs bs cur tv i :=
 ⟨s.get h.eR, Paired.mapP h.at_ fun _ _ e => e.same s, s.get h.eL, h.gb.same s, h.neL, s.get h.eS, h.gS.same s, h.neS, h.sp, h.th.imp_right fun ⟨q, t, g, rest, e1, e2, e3⟩ => ⟨q, t, g, rest, e1, s.get e2, e3⟩⟩
theorem R3 (r : Run) : [r].flatMap Run.all = r.all := by simp
theorem Asc.take' {gs : List G} (h : Asc gs) (n : Nat) : Asc (gs.take n) := List.Pairwise.sublist (List.take_sublist n gs) h
theorem Asc.right {xs ys : List G} (h : Asc (xs ++ ys)) : Asc ys := (List.pairwise_append.mp h).2.1
theorem Pi (g : G) (rest : List G) (t : Thr) : ∃ pre, g :: rest = pre ++ [(⟨g, rest, t⟩ : Run).last] := by
 induction rest generalizing g with
 | nil => exact ⟨[], rfl⟩
 | cons a r ih =>
  obtain ⟨pre, e⟩ := ih a
  refine ⟨g :: pre, ?_⟩
  have e2 : (⟨g, a :: r, t⟩ : Run).last = (⟨a, r, t⟩ : Run).last := List.getLastD_cons ..
  rw [e2, List.cons_append, ← e]
theorem VR {H : Hp} {as : List Addr} {pre : List G} {g : G} (h : At H as (pre ++ [g])) : ∃ bs a, as = bs ++ [a] ∧ H a = some (.tup (G.vs g)) := by
 have hl := h.len
 rw [List.length_append] at hl
 have hne : as ≠ [] := fun z => by rw [z] at hl; simp at hl
 obtain ⟨a, ha, ea⟩ := h.get (i := pre.length) (g := g) (by simp)
 refine ⟨as.dropLast, as.getLast hne, (List.dropLast_concat_getLast hne).symm, ?_⟩
 have e : as.getLast hne = a := by
  rw [List.getLast_eq_getElem]
  have := (List.getElem?_eq_some_iff.mp ha).2
  rw [← this]
  congr 1
  simp at hl
  lia
 rw [e]
 exact ea
end TG
namespace L2
open PySem PySem.Spec PyProof.Rows
theorem BU.here {P : Program} {w : World} {H : Hp} {h : Heap} {a : Addr} {o : HO} (x : BU P w H h a o) : ∃ ob, h.get? a = some ob := by
 cases q : h.get? a with
 | some ob => exact ⟨ob, rfl⟩
 | none =>
  exfalso
  have x' : BU P w H h a o := x
  induction o with
  | lst xs => obtain ⟨_, _, _, _, e⟩ := x'; rw [q] at e; cases e
  | tup xs => obtain ⟨_, _, _, o, e, _⟩ := x'; rw [q] at e; cases e
  | dK kvs => obtain ⟨_, _, _, _, o, _, _, e, _⟩ := x'; rw [q] at e; cases e
  | dT kvs => obtain ⟨_, _, _, _, o, _, _, e, _⟩ := x'; rw [q] at e; cases e
  | set S n => obtain ⟨o, _, _, _, e, _⟩ := x'; rw [q] at e; cases e
  | ins C dx fs => obtain ⟨_, _, _, e, _⟩ := x'; rw [q] at e; cases e
  | own b => obtain ⟨o, e⟩ := x'; rw [q] at e; cases e
  | xd fs => obtain ⟨_, ⟨o, _, _, e, _⟩, _⟩ := x'; rw [q] at e; cases e
  | rng lo hi => obtain ⟨_, _, _, e⟩ := x'; rw [q] at e; cases e
  | frz o u ih => exact ih x'.2 x'.2
  | tbl ps => have e : h.get? a = _ := x'; rw [q] at e; cases e
  | met f y => have e : h.get? a = _ := x'; rw [q] at e; cases e
  | ext φ => obtain ⟨_, ⟨o, e⟩, _⟩ := x'; rw [q] at e; cases e
noncomputable def Fly (l : List Env) (hs : Heap) (H' : Hp) (ea : Addr) (cls : Value) (h : Heap) : Prop :=
 ∃ (B : Heap) (a0 : Value), Heap.FlyingW B l ea cls a0 h ∧ (∀ b o, hs.get? b = some o → b ∉ frs l → ∃ o', B.get? b = some o') ∧ ∀ b, H' b ≠ none → ∃ o', B.get? b = some o'
noncomputable def CXE (P : Program) (w : World) : CXT := fun outer H s E e s' => ∃ (ea : Addr) (cls : Value) (H' : Hp), e = .ref ea ∧ s'.os = s.os ∧ AllBare s'.gens ∧ Un (frs outer) [] H H' s.heap s'.heap ∧ HOk P w H' s'.heap ∧ Fly outer s.heap H' ea cls s'.heap ∧ E cls none H'
section
variable {X : Cx} {pins : List (Addr × Obj)} {σ σ1 : St} {H H1 H' : Hp} {s s1 s' : Shared} {h' B : Heap} {ea : Addr} {cls : Value}
theorem Inv.notStack (I : Inv X pins σ H s) {b : Addr} {o : Obj} (e : X.s₀.heap.get? b = some o) (hb : b ∉ X.fs) : b ∉ frs X.stack := fun hm => by
 rcases List.mem_cons.mp (I.stkSub b hm) with z | z
 ·exact absurd (Nat.lt_of_lt_of_le (Heap.lt_size e) I.ok.above) (by rw [z]; exact Nat.lt_irrefl _)
 ·exact hb z
theorem Inv.fly (I1 : Inv X pins σ1 H1 s1) (I : Inv X pins σ H s) (hB : B.StaysIn s.heap) (hB' : B.StaysIn h') (up : s.heap.UpToSlots h')
  (c1 : ∀ b o, s1.heap.get? b = some o → b ∉ frs X.stack → ∃ o', B.get? b = some o') (c2 : ∀ b, H b ≠ none → ∃ o', B.get? b = some o') : Inv X pins σ H { s with heap := h' } := by
 have via : ∀ b o, s.heap.get? b = some o → (∃ o', B.get? b = some o') → h'.get? b = some o := fun b o e ⟨o', eb⟩ => by
  have := hB b o' eb
  rw [e] at this
  cases this
  exact hB' b o eb
 have slot : ∀ b o, X.s₀.heap.get? b = some o → X.H₀ b = none → b ∈ X.fs → b ∉ X.ex → ∃ sl, h'.get? b = some { o with slots := sl } := fun b o e n hb hx => by
  obtain ⟨sl, e1⟩ := I.base.slot b o e n hb hx
  obtain ⟨_, of, hof, hnf⟩ := I.ok.funs.mem hb
  rw [e] at hof
  cases hof
  obtain ⟨sl', e2⟩ := up b _ e1 hnf
  exact ⟨sl', e2⟩
 have cellK : ∀ c v, s.heap.IsCell c v → h'.IsCell c v := fun c v ⟨o, ho, hd⟩ => by
  obtain ⟨sl, e⟩ := up c o ho (fun vs q => by rw [hd] at q; cases q)
  exact ⟨_, e, hd⟩
 refine ⟨I.ok, I.os, I.bare, ⟨fun b o e n hb hx => ?_, slot, I.base.free, fun b o e hx => ?_, I.base.tups, I.base.frzs, I.base.tbls⟩, ?_, fun x c e => ?_, I.free, I.freeC, fun p hp => ?_, fun b u e => ?_, I.len⟩
 ·exact via b o (I.base.keep b o e n hb hx) (c1 b o (I1.base.keep b o e n hb hx) (I.notStack e hb))
 ·by_cases hb : b ∈ X.fs
  ·obtain ⟨sl, q⟩ := slot b o e (I.ok.frf b hb) hb hx
   exact ⟨_, q⟩
  ·obtain ⟨o1, a1⟩ := I1.base.there b o e hx
   obtain ⟨o', eb⟩ := c1 b o1 a1 (I.notStack e hb)
   exact ⟨o', hB' b o' eb⟩
 ·obtain ⟨m, hn, hl⟩ := I.loc
  refine ⟨m, up.ns hn, fun i x v e1 e2 e3 => ?_⟩
  obtain ⟨u, r, l⟩ := hl i x v e1 e2 e3
  refine ⟨u, r, ?_⟩
  rcases l with l | ⟨k, c, e, z⟩
  ·exact .inl l
  ·exact .inr ⟨k, c, e, cellK c _ z⟩
 ·obtain ⟨v, z⟩ := I.cell x c e
  exact ⟨v, cellK c v z⟩
 ·obtain ⟨e, n, ne, nf, d⟩ := I.pin p hp
  refine ⟨via p.1 p.2 e (c1 p.1 p.2 (I1.pin p hp).1 fun hm => ?_), n, ne, nf, d⟩
  rcases List.mem_cons.mp (I.stkSub _ hm) with z | z
  ·exact ne z
  ·exact nf z
 ·refine (I.hok b u e).stay (fun c v hc q => via c v q (c2 c ?_)) (fun _ q => q) fun _ _ q => q
  rcases hc with z | z
  ·rw [z, e]; simp
  ·rw [z]; simp
structure Arr (X : Cx) (pins : List (Addr × Obj)) (σ : St) (ea : Addr) (cls : Value) (H' : Hp) (s' : Shared) : Prop where
 inv : Inv X pins σ H' s'
 fly : ∃ (H1 : Hp) (s1 : Shared), Inv X pins σ H1 s1 ∧ Fly X.stack s1.heap H' ea cls s'.heap
theorem Wv {E : XK} {e : Value} (I : Inv X pins σ H s) (h : CXE X.prog X.w X.stack H s E e s') : ∃ ea cls H', e = .ref ea ∧ Arr X pins σ ea cls H' s' ∧ E cls none H' := by
 obtain ⟨ea, cls, H', rfl, os, bare, un, hok, fl, hE⟩ := h
 exact ⟨ea, cls, H', rfl, ⟨I.call' (ch := []) os un hok bare (fun b z => absurd z (by simp)), H, s, I, fl⟩, hE⟩
end
section
variable {P : Program} {w : World} {K : PySem.W.Frag} {mg : Str → Option Value} {base : Heap} {N : List Str} {qual : Str} {scope : Scope} {f : Addr} {cd : Value} {A : Around} {outer : List Env} {s : Shared} {H : Hp} {E : XK}
 {pins : List (Addr × Obj)} {σ : St} {H1 H' : Hp} {s1 s' : Shared} {ea : Addr} {cls : Value} {h' : Heap} {args : List Value}
theorem bH (a : Arr (Fd (CXE P w) P w K mg base N qual scope f cd A outer s H E) pins σ ea cls H' s') (hE : E cls none H') : (Fd (CXE P w) P w K mg base N qual scope f cd A outer s H E).xe (.ref ea) s' := by
 obtain ⟨I, H1, s1, I1, B, a0, fl, c1, c2⟩ := a
 refine wpAny_leaves_onW (A := A.deeper (envOfC qual scope s.heap.objs.size f cd)) (env := envOfC qual scope s.heap.objs.size f cd) (outer := outer) I.ok.frames rfl fl fun h' fl' up => ?_
 have I2 := Inv.fly I1 I fl.1 fl'.1 up c1 c2
 refine ⟨ea, cls, H', rfl, I2.os, I2.bare, I2.base, I2.hok, ⟨B, a0, fl', fun b o e hb => ?_, c2⟩, hE⟩
 obtain ⟨o1, a1⟩ := I1.base.there b o e (fun z => absurd (show b ∈ ([] : List Addr) from z) (by simp))
 exact c1 b o1 a1 (I.notStack e hb)
theorem XM (I : Inv (Fd (CXE P w) P w K mg base N qual scope f cd A outer s H E) pins σ H1 s1) (hx : Heap.MadeExcOf s1.heap h' ea cls args) (hE : E cls none H1) : (Fd (CXE P w) P w K mg base N qual scope f cd A outer s H E).xe (.ref ea) { s1 with heap := h' } := by
 have hin : ∀ env ∈ (envOfC qual scope s.heap.objs.size f cd :: outer), ∀ b, env.frame = some b → b ∈ frs (envOfC qual scope s.heap.objs.size f cd :: outer) := fun env he b hb => List.mem_filterMap.mpr ⟨env, he, hb⟩
 have hfun : s1.heap.FunFrames (PySem.W.hideAll s1.heap (frs (envOfC qual scope s.heap.objs.size f cd :: outer))) (envOfC qual scope s.heap.objs.size f cd :: outer) := PySem.W.funFrames_hide I.stack hin
 have c1 : ∀ b o, s1.heap.get? b = some o → b ∉ frs (envOfC qual scope s.heap.objs.size f cd :: outer) → ∃ o', (PySem.W.hideAll s1.heap (frs (envOfC qual scope s.heap.objs.size f cd :: outer))).get? b = some o' := fun b o e hb => ⟨o, PySem.W.hideAll_get _ e hb⟩
 have c2 : ∀ b, H1 b ≠ none → ∃ o', (PySem.W.hideAll s1.heap (frs (envOfC qual scope s.heap.objs.size f cd :: outer))).get? b = some o' := fun b n => by
  cases q : H1 b with
  | none => exact absurd q n
  | some o =>
   obtain ⟨ob, e⟩ := (I.hok b o q).here
   exact ⟨ob, PySem.W.hideAll_get _ e fun z => by rw [I.stkFree b z] at q; cases q⟩
 refine wpAny_leaves_madeW (A := A.deeper (envOfC qual scope s.heap.objs.size f cd)) (s := { s1 with heap := h' }) (env := envOfC qual scope s.heap.objs.size f cd) (outer := outer) I.ok.frames rfl (fun b o q => PySem.W.of_hideAll _ q) hfun hx fun h'' t fl tup tn up => ?_
 have I' : Inv (Fd (CXE P w) P w K mg base N qual scope f cd A outer s H E) pins σ H1 { s1 with heap := h' } := I.kept (t' := s1.toks) hx.keeps
 have I2 := Inv.fly (h' := h'') I I' (fun b o q => hx.keeps b o (PySem.W.of_hideAll _ q)) fl.1 up c1 c2
 refine ⟨ea, cls, H1, rfl, I2.os, I2.bare, I2.base, I2.hok, ⟨_, _, fl, fun b o e hb => ?_, c2⟩, hE⟩
 obtain ⟨o1, a1⟩ := I.base.there b o e (fun z => absurd (show b ∈ ([] : List Addr) from z) (by simp))
 exact c1 b o1 a1 (I.notStack e hb)
theorem Ea : En (CXE P w) (Fd (CXE P w) P w K mg base N qual scope f cd A outer s H E) E := fun pins σ H s e s' I h => by
 obtain ⟨ea, cls, H', rfl, arr, hE⟩ := Wv I h
 exact bH arr hE
theorem am : PassesOwn (model P w) (Fd (CXE P w) P w K mg base N qual scope f cd A outer s H E).A (Fd (CXE P w) P w K mg base N qual scope f cd A outer s H E).env (Fd (CXE P w) P w K mg base N qual scope f cd A outer s H E).xe := PassesOwn.leaving (Q₁ := fun e s'' => CXE P w outer H s E e s'')
theorem Fun.okX {x qual : Str} {st : Stmt} {f : Addr} {fd : FuncData} {N ps : List Str} {k : Nat} {sp : Sp} (F : Fun K x qual st f fd) (S : AO N ps (AG st)) (len : ∀ vs H Q E, sp vs H Q E → vs.length = ps.length)
  (hbody : ∀ (cdv : Value) (A : Around) (outer : List Env) (s : Shared) (H : Hp) (vs : List V) (Q : VK) (E : XK), CJ k (A.deeper (envOfC qual (AG st) s.heap.objs.size f cdv)) → sp vs H Q E →
   ∃ t, PSs (Fd (CXE P w) P w K mg base N qual (AG st) f cdv A outer s H E) (BR st) t ∧ t { nx := fun _ H' => Q .non H', rt := Q } (start N vs) H) : Ao P w K mg base (CXE P w) (k + 1) f fd ps sp := by
 obtain ⟨oc, od, kV, doc, pm, an, cdv, ct, osl, rfl, lk, hcd⟩ := F.ex
 exact UE lk hcd S len fun A outer s H vs Q E hr hsp => hbody cdv A outer s H vs Q E hr hsp
end
structure DM (K : PySem.W.Frag) (C : Addr) (x qual : Str) (st : Stmt) (ps : List Str) (f : Addr) (fd : FuncData) : Prop where
 F : Fun K x qual st f fd
 mt : Ts K C x f
 b : Binds K fd ps []
noncomputable abbrev bmV : List Value := [.type "ValueError", .type "Exception", .type "BaseException", .type "object"]
noncomputable abbrev Fx (K : PySem.W.Frag) (C : Addr) : Prop := PySem.W.excIn K C bmV "ValueError.__new__" = true
theorem toArr {α : Type} {sl : Array α} {l : List α} (e : sl.toList = l) : sl = l.toArray := by rw [← e]
theorem Fx.rec {K : PySem.W.Frag} {C : Addr} (q : Fx K C) : ∃ (dd : Option Addr) (cd : ClassData) (bm : List Value) (k0 k1 k2 k3 k5 : Option Value),
  K.lookup C = some ⟨.type "type", dd, .cls cd, #[k0, k1, k2, k3, some (.builtin "ValueError.__new__"), k5]⟩ ∧ cd.mro = .ref C :: bm ∧ cd.hasDel = false ∧ PySem.W.tailIn K bmV bm = true ∧ PySem.W.nsOkIn K cd.ns = true ∧ PySem.W.nsIn K cd.ns "__init__" = some none := by
 simp only [Fx, PySem.W.excIn] at q
 repeat' split at q
 all_goals first | exact absurd q Bool.false_ne_true | skip
 next dd cd sl hK mr ll C' bm k0 k1 k2 k3 n k5 e1 e2 =>
  rw [toArr e2] at hK
  simp only [Bool.and_eq_true] at q
  obtain ⟨⟨⟨⟨⟨h1, h2⟩, h3⟩, h4⟩, h5⟩, h6⟩ := q
  have h1 : C' = C := by simpa using h1
  have h2 : n = "ValueError.__new__" := by simpa using h2
  subst h1 h2
  exact ⟨dd, cd, bm, k0, k1, k2, k3, k5, hK, e1, by simpa using h3, h4, h5, by simpa using h6⟩
theorem Fx.own {K : PySem.W.Frag} {C : Addr} {x : Str} {mg : Str → Option Value} {h : Heap} (q : Fx K C) (X : K.In h) (hm : mg x = some (.ref C)) : OwnCls x C bmV "ValueError.__new__" mg h := by
 obtain ⟨dd, cd, bm, k0, k1, k2, k3, k5, hK, e1, e2, e3, e4, e5⟩ := q.rec
 have ns : h.Ns cd.ns (h.nsMap cd.ns) := .of_isNs (PySem.W.isNs_of_in X e4)
 have no : h.nsMap cd.ns "__init__" = none := PySem.W.nsMap_none_of_in X e4 e5
 have tl := PySem.W.tail_of_in X e3
 rcases cd with ⟨a1, a2, a3, a4, a5, a6, a7, a8, a9, a10, a11⟩
 simp only at e1 e2
 subst e1 e2
 exact ⟨hm, bm, a4, a1, a5, a2, a6, a7, a8, a9, a10, dd, k0, k1, k2, k3, k5, _, X _ _ hK, ns, no, tl⟩
noncomputable def X4 (X : Cx) (E : XK) : Prop := ∀ (pins : List (Addr × Obj)) (σ : St) (H : Hp) (s : Shared) (h' : Heap) (ea : Addr) (cls : Value) (args : List Value), Inv X pins σ H s → Heap.MadeExcOf s.heap h' ea cls args → E cls none H → X.xe (.ref ea) { s with heap := h' }
theorem D7 {P : Program} {w : World} {K : PySem.W.Frag} {mg : Str → Option Value} {base : Heap} {N : List Str} {qual : Str} {scope : Scope} {f : Addr} {cd : Value} {A : Around} {outer : List Env} {s : Shared} {H : Hp} {E : XK} : X4 (Fd (CXE P w) P w K mg base N qual scope f cd A outer s H E) E := fun _ _ _ _ _ _ _ _ I hx hE => XM I hx hE
section
variable {X : Cx} {E : XK} {x : Str} {C : Addr} {np cpos pos : Pos} {e : Expr} {es : List Expr} {t : TA}
noncomputable def KL (C : Addr) (E : XK) (t : TA) : TS := fun _ σ H => t σ H fun vs H1 => vs.length ≤ sizeLine ∧ E (.ref C) none H1
theorem BQ (hp : X4 X E) (hc : X.calm = true) (q : Fx X.K C) (hg : Gl X x) (hm : X.mg x = some (.ref C)) (ha : PA X (e :: es) t) (hdb : (x == ("__debug__" : Str)) = false := by decide)
  (he : starEach (e :: es) X.env = (false, eval e X.env) :: starEach es X.env := by rfl) (hpl : (backTo cpos (starEach es X.env)).any (·.1) = false := by rfl) :
  PS X (.Raise (some (.Call (.Name x np) (e :: es) [] cpos)) none pos) (KL C E t) := by
 intro pins s σ H D I h
 obtain ⟨tl, N, nm, q', bs, hdct, sn, sub, ab, col, dd, k0, k1, k2, k3, k5, mN, hC, hN, hni, T⟩ := (Fx.own q I.mod.kin hm).obj
 refine wpAny_Raise_call_subT (C := C) (nm := nm) (q := q') (N := N) (bs := bs) (bm := tl) (hdct := hdct) (sn := sn) (sub := sub) (ab := ab) (col := col) (dd := dd) (k0 := k0) (k1 := k1) (k2 := k2) (k3 := k3) (k5 := k5)
  PySem.F.excBase_ValueError (mN := mN) (T.hasType PySem.F.excBase_ValueError.hasBase) (I.ok.hd hc) (by rw [he]; show (false || (backTo cpos (starEach es X.env)).any (·.1)) = false; rw [hpl]; rfl) hni (K6 I hg hm ⟨rfl, ?_⟩ hdb)
 have hs := ha cpos pins s σ H _ I h
 rw [he] at hs ⊢
 refine Calls.evalArgs_plain (thn hs fun us s1 zq => ?_)
 obtain ⟨vs, H1, I1, r, z, hE⟩ := zq
 exact ⟨rfl, by rw [← r.length]; exact z, I1.bk _ _ hC, hN.keeps I1.bk, T.keeps I1.bk, fun h' ea hx => hp pins σ H1 s1 h' ea (.ref C) us I1 hx hE⟩
end
noncomputable def SX (X : Cx) (N : Value → St → Hp → Prop) : Prop := ∀ (pins : List (Addr × Obj)) (σ : St) (H : Hp) (s : Shared) (e : Value) (s' : Shared), Inv X pins σ H s → CXE X.prog X.w X.stack H s (fun cls _ H' => N cls σ H') e s' → X.xe e s'
section
variable {X : Cx} {k : Nat} {f C : Addr} {fd : FuncData} {ps : List Str} {sp : Sp} {dvs : List V} {ds : List Value} {N : Value → St → Hp → Prop} {x m : Str} {p pos apos : Pos} {e o : Expr} {es : List Expr} {ta : TE} {t : TA}
theorem Ub {pins : List (Addr × Obj)} {σ : St} {H : Hp} {s : Shared} {Q : VK} {us : List Value} {vs : List V} (F : Ao X.prog X.w X.K X.mg X.base (CXE X.prog X.w) k f fd ps sp) (hr : CJ k X.A) (hb : Binds X.K fd ps ds) (hd : As dvs ds) (hx : SX X N)
  (I : Inv X pins σ H s) (r : As vs us) (h : sp (vs ++ dvs) H Q (fun cls _ H' => N cls σ H')) : wpAny (model X.prog X.w) X.A (call (.ref f) us) (EP X pins σ Q) X.xe s := by
 have r2 : As (vs ++ dvs) (us ++ ds) := r.append hd
 have hl : (us ++ ds).length = ps.length := by rw [← r2.length]; exact F.len _ _ _ _ h
 refine wpAny_call (codeAny_mono (F.run X.A X.stack s H ⟨us, []⟩ (us ++ ds) (vs ++ dvs) Q _ hr I.env0 (hb s us I.kIn hl) r2 h) fun r s' hq => ?_)
 cases r with
 | error e => exact hx pins σ H s e s' I hq
 | ok fl =>
  cases fl with
  | ret u => exact I.after hq
  | next => exact False.elim hq
  | brk => exact False.elim hq
  | cont => exact False.elim hq
noncomputable def S8 (C : Addr) (m : Str) (sp : Sp) (dvs : List V) (N : Value → St → Hp → Prop) (ta : TE) (t : TA) : TE := fun σ H Q => ta σ H fun x H1 => ∃ a dx fs, x = .ref a ∧ H1 a = some (.ins C dx fs) ∧ fs.lookup m = none ∧
 t σ H1 fun vs H2 => sp (x :: (vs ++ dvs)) H2 Q (fun cls _ H' => N cls σ H')
theorem IP {pl : Sem Bool} (he : PE X o ta) (c : Cls X.K C) (hm : Ts X.K C m f) (F : Ao X.prog X.w X.K X.mg X.base (CXE X.prog X.w) k f fd ps sp) (hr : CJ k X.A) (hb : Binds X.K fd ps ds) (hd : As dvs ds) (hx : SX X N) (ha : PA X (e :: es) t)
  (hst : starEach (e :: es) X.env = (false, eval e X.env) :: starEach es X.env := by rfl) (hpl : (backTo pos (starEach es X.env)).any (·.1) = false := by rfl)
  (ht : eval (.Call (.Attribute o m apos) (e :: es) [] pos) X.env = (do
   let ov ← eval o X.env
   standAt apos.atName
   let (f, first) ← holding [ov] (getMethod ov m pl)
   callWith pos f first (backTo pos (starEach (e :: es) X.env)) (backToKw pos (keywordEach [] X.env))) := by rfl) :
  PE X (.Call (.Attribute o m apos) (e :: es) [] pos) (S8 C m sp dvs N ta t) := by
 intro pins s σ H Q I h
 refine PySem.W.methodCall_KW (pl := pl) (thn (he pins s σ H _ I h) fun u s1 ⟨x, H1, I1, rx, a, dx, fs, ex, ea, l, q⟩ => ?_) ht
 subst ex
 obtain rfl : u = Value.ref a := rx
 refine GN I1 ea c hm l ?_
 refine PySem.W.callWith_K (first := [.ref a]) (h₀ := X.base) I.ok.mod.kin hm.kp (thn (ha pos pins s1 σ H1 _ I1 q) fun us s2 ⟨vs, H2, I2, r, q2⟩ => ⟨I2.kIn, ?_⟩) hst hpl
 exact Ub (us := .ref a :: us) (vs := .ref a :: vs) F hr hb hd hx I2 (.cons rfl r) q2
theorem Ux {pl : Sem Bool} (he : PE X o ta) (c : Cls X.K C) (hm : Ts X.K C m f) (F : Ao X.prog X.w X.K X.mg X.base (CXE X.prog X.w) k f fd ps sp) (hr : CJ k X.A) (hb : Binds X.K fd ps ds) (hd : As dvs ds) (hx : SX X N)
  (ht : eval (.Call (.Attribute o m apos) [] [] pos) X.env = (do
   let ov ← eval o X.env
   standAt apos.atName
   let (f, first) ← holding [ov] (getMethod ov m pl)
   callWith pos f first (backTo pos (starEach [] X.env)) (backToKw pos (keywordEach [] X.env))) := by rfl) :
  PE X (.Call (.Attribute o m apos) [] [] pos) (S8 C m sp dvs N ta KC) := by
 intro pins s σ H Q I h
 refine PySem.W.methodCall_KW (pl := pl) (thn (he pins s σ H _ I h) fun u s1 ⟨x, H1, I1, rx, a, dx, fs, ex, ea, l, q⟩ => ?_) ht
 subst ex
 obtain rfl : u = Value.ref a := rx
 refine GN I1 ea c hm l ?_
 exact PySem.W.callWith_K0 (first := [.ref a]) I1.kIn hm.kp (Ub (us := [.ref a]) (vs := [.ref a]) F hr hb hd hx I1 (.cons rfl .nil) q)
end
noncomputable abbrev Cx.caught (X : Cx) (e : Value) (pn : List (Addr × Obj)) : Cx := { X with A := X.A.mark (some e), calm := false, pn := pn, xe := fun _ _ => False }
noncomputable abbrev Cx.trying (X : Cx) (pn : List (Addr × Obj)) (E : Value → Shared → Prop) : Cx := { X with pn := pn, xe := E }
theorem Inv.caught {X : Cx} {pins : List (Addr × Obj)} {σ : St} {H : Hp} {s : Shared} (I : Inv X pins σ H s) (e : Value) : Inv (X.caught e (X.pn ++ pins)) [] σ H s :=
 ⟨⟨I.ok.mod, I.ok.kind, I.ok.glob, I.ok.blt, I.ok.above, I.ok.inj, I.ok.has, I.ok.cab, (fun z => nomatch z), I.ok.frames, I.ok.stk, I.ok.exf, I.ok.bs, I.ok.bsz, I.ok.noex, I.ok.exfs, I.ok.funs, I.ok.frf⟩, I.os, I.bare, I.base, I.loc, I.cell, I.free, I.freeC, fun p hp => I.pin p (by simpa using hp), I.hok, I.len⟩
theorem Inv.uncaught {X : Cx} {pins : List (Addr × Obj)} {σ : St} {H : Hp} {s : Shared} {e : Value} (ok : X.Ok) (I : Inv (X.caught e (X.pn ++ pins)) [] σ H s) : Inv X pins σ H s :=
 ⟨ok, I.os, I.bare, I.base, I.loc, I.cell, I.free, I.freeC, fun p hp => I.pin p (by simpa using hp), I.hok, I.len⟩
theorem Inv.trying {X : Cx} {pins : List (Addr × Obj)} {σ : St} {H : Hp} {s : Shared} (I : Inv X pins σ H s) (E : Value → Shared → Prop) : Inv (X.trying (X.pn ++ pins) E) [] σ H s :=
 ⟨⟨I.ok.mod, I.ok.kind, I.ok.glob, I.ok.blt, I.ok.above, I.ok.inj, I.ok.has, I.ok.cab, I.ok.hd, I.ok.frames, I.ok.stk, I.ok.exf, I.ok.bs, I.ok.bsz, I.ok.noex, I.ok.exfs, I.ok.funs, I.ok.frf⟩, I.os, I.bare, I.base, I.loc, I.cell, I.free, I.freeC, fun p hp => I.pin p (by simpa using hp), I.hok, I.len⟩
theorem Inv.tried {X : Cx} {pins more : List (Addr × Obj)} {σ : St} {H : Hp} {s : Shared} {E : Value → Shared → Prop} (ok : X.Ok) (I : Inv (X.trying (X.pn ++ pins) E) more σ H s) : Inv X pins σ H s :=
 ⟨ok, I.os, I.bare, I.base, I.loc, I.cell, I.free, I.freeC, fun p hp => I.pin p (List.mem_append_left _ hp), I.hok, I.len⟩
noncomputable def tHs (K : PySem.W.Frag) : List (Value × TS) → Value → Ip → St → Hp → Prop
 | [], _, _, _, _ => False
 | (c, th) :: r, cls, D, σ, H => ∃ b, PySem.W.exmOne K cls c = some b ∧ if b = true then th D σ H else tHs K r cls D σ H
inductive PHs (X : Cx) : List ExceptHandler → List (Value × TS) → Prop
 | nil : PHs X [] []
 | cons {x : Str} {c : Value} {np pos : Pos} {b₀ : Stmt} {suite : List Stmt} {th : TS} {hs : List ExceptHandler} {ths : List (Value × TS)} (hg : Gl X x) (hm : X.mg x = some c) (hd : (x == ("__debug__" : Str)) = false)
   (hb : ∀ e pn, PSs (X.caught e pn) (b₀ :: suite) th) (r : PHs X hs ths) : PHs X (.ExceptHandler (some (.Name x np)) none (b₀ :: suite) pos :: hs) ((c, th) :: ths)
section
variable {X : Cx} {pins : List (Addr × Obj)} {D : Ip}
theorem SP.map {X Y : Cx} {pins pins' : List (Addr × Obj)} {D : Ip} {f : Flow} {s : Shared} (k : ∀ σ H, Inv X pins σ H s → Inv Y pins' σ H s) (h : SP X pins D f s) : SP Y pins' D f s := by
 cases f with
 | next => obtain ⟨σ, H, I, q⟩ := h; exact ⟨σ, H, k _ _ I, q⟩
 | brk => obtain ⟨σ, H, I, q⟩ := h; exact ⟨σ, H, k _ _ I, q⟩
 | cont => obtain ⟨σ, H, I, q⟩ := h; exact ⟨σ, H, k _ _ I, q⟩
 | ret u => obtain ⟨v, σ, H, I, r, q⟩ := h; exact ⟨v, σ, H, k _ _ I, r, q⟩
theorem Np (hfr : X.env.frame = some X.env.locals) (hst : X.stack = X.env :: X.outer) {ea : Addr} {cls : Value} : ∀ {hs : List ExceptHandler} {ths : List (Value × TS)}, PHs X hs ths → ∀ {σ : St} {H : Hp} {s : Shared}, Arr X pins σ ea cls H s → tHs X.K ths cls D σ H →
  wpAny (model X.prog X.w) X.A (handleBy (.ref ea) X.env hs) (SP X pins D) X.xe s
 | _, _, .nil, _, _, _, _, h => h.elim
 | _, _, .cons (x := x) (c := c) (b₀ := b₀) (suite := suite) (th := th) hg hm hd hb r, σ, H, s, a, h => by
  obtain ⟨I, H1, s1, I1, B, a0, fl, c1, c2⟩ := a
  obtain ⟨b, hx, hq⟩ := h
  refine wpAny_handleBy_cons ?_ (by intro q; cases q)
  refine codeAny_handlers_test ?_
  have Ic := I.caught (.ref ea)
  refine K6 (X := X.caught (.ref ea) (X.pn ++ pins)) Ic hg hm ?_ hd
  obtain ⟨ob, hob, hc⟩ := fl.there
  have LT : PySem.W.Looks (model X.prog X.w) s.heap (typeOf (.ref ea)) cls := by
   subst hc
   exact (PySem.W.Looks.ld hob).andThen .now
  refine (PySem.W.exm_one I.kIn LT hx).here ?_
  cases b with
  | false =>
   exact Np hfr hst r ⟨I, H1, s1, I1, B, a0, fl, c1, c2⟩ (by simpa using hq)
  | true =>
   rw [if_pos rfl] at hq
   refine codeAny_handlers_suite ?_
   refine lands_againW fl fun h6 fl6 up6 => ?_
   have I6 : Inv X pins σ H { s with heap := h6 } := Inv.fly I1 I fl.1 fl6.1 up6 c1 c2
   refine DF (thn (hb (.ref ea) (X.pn ++ pins) [] _ σ H D (I6.caught _) hq) fun f s2 h2 => ?_)
   exact SP.map (fun _ _ J => J.uncaught I.ok) h2
noncomputable def lookX (X : Cx) (pins : List (Addr × Obj)) (D : Ip) (hs : List ExceptHandler) : Value → Shared → Prop := fun e s1 => wpAny (model X.prog X.w) X.A (noteFrame e X.env) (fun _ s2 => wpAny (model X.prog X.w) X.A (setFlight e none) (fun _ s3 =>
 wpAny (model X.prog X.w) X.A (handleBy e X.env hs) (SP X pins D) X.xe s3) X.xe s2) X.xe s1
noncomputable def tTry (K : PySem.W.Frag) (tb : (Value → St → Hp → Prop) → TS) (ths : List (Value × TS)) : TS := fun D σ H => tb (fun cls σ' H' => tHs K ths cls D σ' H') D σ H
theorem ZR {body : List Stmt} {h₀ : ExceptHandler} {hs : List ExceptHandler} {ths : List (Value × TS)} {tb : (Value → St → Hp → Prop) → TS} {pos : Pos} (hfr : X.env.frame = some X.env.locals) (hst : X.stack = X.env :: X.outer)
  (hb : ∀ N pn xe, SX (X.trying pn xe) N → PSs (X.trying pn xe) body (tb N)) (hh : PHs X (h₀ :: hs) ths) : PS X (.Try body (h₀ :: hs) [] [] pos) (tTry X.K tb ths) := by
 intro pins s σ H D I h
 refine wpAny_Try_except ?_
 have pass : SX (X.trying (X.pn ++ pins) (lookX X pins D (h₀ :: hs))) (fun cls σ' H' => tHs X.K ths cls D σ' H') := fun pins' σ' H1 s1 e s' I' hx => by
  obtain ⟨ea, cls, H', rfl, a, hN⟩ := Wv I' hx
  obtain ⟨J, H2, s2, J2, B, a0, fl, c1, c2⟩ := a
  have J' : Inv X pins σ' H' s' := J.tried I.ok
  have J2' : Inv X pins σ' H2 s2 := J2.tried I.ok
  have fl : Heap.FlyingW B X.stack ea cls a0 s'.heap := fl
  have c1 : ∀ b o, s2.heap.get? b = some o → b ∉ frs X.stack → ∃ o', B.get? b = some o' := c1
  rw [hst] at fl
  refine wpAny_looks_onW (A := X.A) (by rw [I.ok.frames, hst]) hfr fl fun h4 held4 up4 => ?_
  refine wpAny_landsW held4 fun h5 fl5 up5 => ?_
  have up := up4.trans up5
  have I5 : Inv X pins σ' H' { s' with heap := h5 } := Inv.fly J2' J' fl.1 fl5.1 up c1 c2
  refine Np hfr hst hh ⟨I5, H2, s2, J2', B, a0, by rw [hst]; exact fl5, c1, c2⟩ hN
 refine wpAny_mono (hb _ _ _ pass [] s σ H D (I.trying _) h) (fun f s1 h1 => ?_) fun e s1 h1 => h1
 have h1 : SP X pins D f s1 := SP.map (fun _ _ J => J.tried I.ok) h1
 cases f with
 | next => exact wpAny_execs_nil h1
 | brk => exact h1
 | cont => exact h1
 | ret u => exact h1
end
theorem UF : ∀ {us : List Value} {ns : List Int}, IntsAre us ns → As (ns.map V.int) us
 | _, _, .nil => .nil
 | _, _, .cons n t r => .cons ⟨t, rfl⟩ (UF r)
section
variable {X : Cx}
theorem V5 {pins : List (Addr × Obj)} {σ : St} {H : Hp} {s : Shared} {Q : VK} {ns ns' : List Int} {out : List Value} {h' : Heap} {D : Addr} {c tk : Nat} (I : Inv X pins σ H s) (hD : s.heap.objs.size ≤ D) (kp : ∀ b o, s.heap.get? b = some o → h'.get? b = some o)
  (hat : h'.get? D = some (seqObj "list" out.toArray c)) (a1 : IntsAre out ns') (a2 : ns'.Perm ns) (hl : ns.length < 64) (q : H D = none → AI H (upd H D (.lst (ns'.map V.int))) → upd H D (.lst (ns'.map V.int)) D = some (.lst (ns'.map V.int)) → Q (.ref D) (upd H D (.lst (ns'.map V.int)))) :
  EP X pins σ Q (.ref D) { s with heap := h', toks := tk } := by
 have hfr : H D = none := I.hok.fresh hD
 have hv := UF a1
 refine ⟨.ref D, _, I.laid (t' := tk) (o := .lst (ns'.map V.int)) kp hD ⟨by rw [List.length_map, a2.length_eq, PySem.sizeLine_eq]; lia, out, c, hv, hat⟩, rfl, q hfr (A4 hfr) AQ⟩
noncomputable def MA (K : PySem.W.Frag) : List V → Hp → VK → Prop := fun xs H Q => ∃ d, xs = [.ref d] ∧ ∃ (kvs : List (Key × V)) (ks : List Int), H d = some (.dK kvs) ∧ kvs.map (·.1) = ks.map Sum.inl ∧ ks.length < 64 ∧
 ∀ (D : Addr) (H' : Hp) (ks' : List Int), H D = none → AI H H' → H' D = some (.lst (ks'.map V.int)) → ks'.Perm ks → ks'.Pairwise (· ≤ ·) → Q (.ref D) H'
theorem Kw : ∀ {us : List Value} {ks : List Int}, us.length = ks.length → (∀ (j : Nat) (u : Value), us[j]? = some u → ∃ k : Int, ks[j]? = some k ∧ ∃ t, u = Value.int k t) → IntsAre us ks
 | [], [], _, _ => .nil
 | [], _ :: _, h, _ => by simp at h
 | _ :: _, [], h, _ => by simp at h
 | u :: us, k :: ks, h, hj => by
  obtain ⟨k', e1, t, e2⟩ := hj 0 u rfl
  have e1 : k = k' := by simpa using e1
  subst e1 e2
  exact .cons k t (Kw (by simpa using h) fun j u hu => by simpa using hj (j + 1) u (by simpa using hu))
theorem B9 (hc : X.calm = true) : B1 X (.builtin "sorted") (MA X.K) := by
 intro pins s σ H xs us Q I r h
 obtain ⟨d, rfl, kvs, ks, hd, hk, h64, q⟩ := h
 obtain ⟨u, rfl, ru⟩ := vals1 r
 cases ru
 obtain ⟨hz, lo, vs, kv, hD⟩ := I.hok d _ hd
 obtain ⟨ep, hat⟩ := hD.dictAt
 have lkv := Paired.length kv
 have lks : kvs.length = ks.length := by have := congrArg List.length hk; simpa using this
 refine Calls.call_function_entry kind_sorted plain_sorted entry_sorted (args_sorted1 _) ?_
 unfold Builtin.«sorted»
 refine wpAny_bind (m := checkCount "sorted" 1 1 _) (wpAny_pure ?_)
 refine wpAny_bind (PySem.W.kdu_collect (A := X.A.in1) (PySem.W.kdl_dict (knd := BJ X.prog X.w) (kvs := vs) (ep := ep) lo) (I.ok.hd hc) hat (by rw [← lkv]; exact hz) fun h' tk acc hkk hacc => ?_)
 have hint : IntsAre acc.toList ks := by
  refine Kw (by rw [Array.length_toList, hacc.1, ← lkv, lks]) fun j u hu => ?_
  obtain ⟨k, x, hx, hki⟩ := hacc.2 j u (by rw [← Array.getElem?_toList]; exact hu)
  have hj : j < kvs.length := by
   have := (List.getElem?_eq_some_iff.mp hx).1
   lia
  obtain ⟨p, hp, e1, e2⟩ := (show ∃ p, kvs[j]? = some p ∧ p.1 = k ∧ RelV p.2 x from by
   obtain ⟨p, h1, h2⟩ := TG.Paired.get kv hx
   exact ⟨p, h1, h2⟩)
  have hkj : (ks.map (Sum.inl : Int → Key))[j]? = some k := by rw [← hk, List.getElem?_map, hp]; exact congrArg some e1
  rw [List.getElem?_map] at hkj
  obtain ⟨i, hi, rfl⟩ := Option.map_eq_some_iff.mp hkj
  refine ⟨i, hi, ?_⟩
  have hki : Nk (Sum.inl i) u = true := hki
  rcases BM hki with ⟨i', t, e3, e4⟩ | ⟨y, t, e3, e4⟩
  ·injection e3 with e3
   subst e3
   exact ⟨t, e4⟩
  ·cases e3
 have hal : acc.toList.length = ks.length := by rw [Array.length_toList, hacc.1, ← lkv, lks]
 refine wpAny_bind (wpAny_newList ?_ (by rw [hal, PySem.sizeLine_eq]; lia))
 have hoL : (h'.push (seqObj "list" acc.toList.toArray 0)).get? h'.objs.size = some (seqObj "list" acc.toList.toArray 0) := Heap.get?_push_size _ rfl
 show wpAny _ _ _ _ _ { s with heap := h'.push (seqObj "list" acc.toList.toArray 0), toks := tk }
 refine wpAny_bind (wpAny_holding (wpAny_call_entry slot_list_sort ⟨_, hoL, rfl⟩ entry_list_sort (list_sort_tree hoL hint (by lia) fun out ns' a1 a2 a3 => ⟨_, rfl, ?_⟩) (args_list_sort _)))
 obtain ⟨e, he⟩ := sortedHeap_at (vs := acc.toList) (out := out) hoL
 have I' : Inv X pins σ H { s with heap := h', toks := tk } := I.kept hkk
 refine wpAny_pure ⟨_, rfl, V5 (s := { s with heap := h', toks := tk }) (tk := tk) I' (Nat.le_refl _) (fun b o q' => ?_) (by rw [he]) a1 a2 h64 fun n1 n2 n3 => q _ _ _ n1 n2 n3 a2 a3⟩
 have q' : h'.get? b = some o := q'
 have hlt := Heap.lt_size q'
 refine (sortedHeap_old (Nat.ne_of_lt hlt) (by rw [size_push']; exact Nat.lt_succ_of_lt hlt)).trans ?_
 exact Heap.get?_push_of_some _ q'
end
theorem len0 {α : Type} {us : List α} (h : us.length = 0) : us = [] := List.length_eq_zero_iff.mp h
theorem Wc {α : Type} {us : List α} {n : Nat} (h : us.length = n + 1) : ∃ a r, us = a :: r ∧ r.length = n := by
 cases us with
 | nil => cases h
 | cons a r => exact ⟨a, r, rfl, Nat.succ.inj h⟩
theorem CZ {α : Type} {us : List α} (h : us.length = 1) : ∃ a, us = [a] := by
 obtain ⟨a, r, rfl, h'⟩ := Wc h; cases len0 h'; exact ⟨a, rfl⟩
theorem C4 {α : Type} {us : List α} (h : us.length = 2) : ∃ a b, us = [a, b] := by
 obtain ⟨a, r, rfl, h'⟩ := Wc h; obtain ⟨b, rfl⟩ := CZ h'; exact ⟨a, b, rfl⟩
theorem Q5 {α : Type} {us : List α} (h : us.length = 3) : ∃ a b c, us = [a, b, c] := by
 obtain ⟨a, r, rfl, h'⟩ := Wc h; obtain ⟨b, c, rfl⟩ := C4 h'; exact ⟨a, b, c, rfl⟩
theorem Pc {α : Type} {us : List α} (h : us.length = 4) : ∃ a b c d, us = [a, b, c, d] := by
 obtain ⟨a, r, rfl, h'⟩ := Wc h; obtain ⟨b, c, d, rfl⟩ := Q5 h'; exact ⟨a, b, c, d, rfl⟩
theorem len5 {α : Type} {us : List α} (h : us.length = 5) : ∃ a b c d e, us = [a, b, c, d, e] := by
 obtain ⟨a, r, rfl, h'⟩ := Wc h; obtain ⟨b, c, d, e, rfl⟩ := Pc h'; exact ⟨a, b, c, d, e, rfl⟩
end L2
namespace TG
open PySem L2
inductive Err where
 | nogate | taken | upside | bounds | full | deeds | nothing | badlist | few | size | badthrow | badrow
 deriving DecidableEq
noncomputable def Kp (b P : Addr) (H H' : Hp) : Prop := ∀ a u, a ≠ b → a ≠ P → H a = some u → H' a = some u
theorem Kp.of {b P : Addr} {H H' : Hp} (s : AI H H') : Kp b P H H' := fun a u _ _ e => s a u e
theorem Kp.trans {b P : Addr} {H H1 H2 : Hp} (k : Kp b P H H1) (k' : Kp b P H1 H2) : Kp b P H H2 := fun a u h1 h2 e => k' a u h1 h2 (k a u h1 h2 e)
theorem Kp.upd {b P a : Addr} {H H1 : Hp} {o : HO} (k : Kp b P H H1) (h : a = b ∨ a = P) : Kp b P H (L2.upd H1 a o) := fun c u h1 h2 e => by
 have hc : c ≠ a := by rcases h with rfl | rfl <;> assumption
 rw [AN hc]
 exact k c u h1 h2 e
noncomputable def Vn (H : Hp) (l : Addr) (gs : List G) : Prop := ∃ as : List Addr, H l = some (.lst (as.map V.ref)) ∧ At H as gs
structure Std (gs : List G) : Prop where
 asc : Asc gs
 ok : ∀ g ∈ gs, OkG g
 len : gs.length ≤ 40
theorem U9 {gs : List G} (h : Asc gs) : (gs.map G.p).Nodup := by
 unfold List.Nodup
 rw [List.pairwise_map]
 exact h.imp fun {a b} h z => by lia
theorem Std.nd {gs : List G} (h : Std gs) : (gs.map G.p).Nodup := U9 h.asc
structure Bch (C : Addr) (H : Hp) (b S P : Addr) (ow : List Addr) (gs : List G) (past : List (List G)) : Prop where
 at_ : ∃ dx, H b = some (.ins C dx [("standing", .ref S), ("past", .ref P)])
 st : Vn H S gs
 pa : ∃ ps : List Addr, H P = some (.lst (ps.map V.ref)) ∧ Paired (Vn H) ps past ∧ (∀ p ∈ ps, p ∈ ow ∧ p ≠ P)
 sp : S ≠ P
 so : S ∈ ow
 po : P ∈ ow
 std : Std gs
 stds : ∀ x ∈ past, Std x
 len : past.length ≤ 300
 lv : ∀ a ∈ ow, ∃ xs, H a = some (.lst xs)
theorem At.keep {H H' : Hp} {as : List Addr} {gs : List G} (h : At H as gs) (k : ∀ a xs, H a = some (.tup xs) → H' a = some (.tup xs)) : At H' as gs := by
 unfold At at *
 induction h with
 | nil => exact .nil
 | cons e _ ih => exact .cons (k _ _ e) ih
theorem Vn.keep {H H' : Hp} {l : Addr} {gs : List G} (h : Vn H l gs) (kl : ∀ u, H l = some u → H' l = some u) (k : ∀ a xs, H a = some (.tup xs) → H' a = some (.tup xs)) : Vn H' l gs := by
 obtain ⟨as, e, g⟩ := h
 exact ⟨as, kl _ e, g.keep k⟩
theorem Paired.keepM {α β : Type} {F F' : α → β → Prop} : ∀ {xs : List α} {ys : List β}, Paired F xs ys → (∀ x y, x ∈ xs → F x y → F' x y) → Paired F' xs ys
 | _, _, .nil, _ => .nil
 | _, _, .cons e r, k => .cons (k _ _ List.mem_cons_self e) (Paired.keepM r fun x y h => k x y (List.mem_cons_of_mem _ h))
theorem Paired.takeP {α β : Type} {F : α → β → Prop} : ∀ {xs : List α} {ys : List β}, Paired F xs ys → ∀ n, Paired F (xs.take n) (ys.take n)
 | _, _, .nil, n => by simp only [List.take_nil]; exact .nil
 | _, _, .cons e r, 0 => .nil
 | _, _, .cons e r, n + 1 => .cons e (Paired.takeP r n)
theorem Bch.keep {C : Addr} {H H' : Hp} {b S P : Addr} {ow : List Addr} {gs : List G} {past : List (List G)} (h : Bch C H b S P ow gs past) (k : ∀ a u, (a = b ∨ a ∈ ow ∨ ∃ xs, u = .tup xs) → H a = some u → H' a = some u) : Bch C H' b S P ow gs past := by
 have kt : ∀ a xs, H a = some (.tup xs) → H' a = some (.tup xs) := fun a xs e => k a _ (.inr (.inr ⟨xs, rfl⟩)) e
 obtain ⟨dx, e⟩ := h.at_
 obtain ⟨ps, e2, pr, hm⟩ := h.pa
 exact ⟨⟨dx, k _ _ (.inl rfl) e⟩, h.st.keep (fun u e => k _ u (.inr (.inl h.so)) e) kt, ⟨ps, k _ _ (.inr (.inl h.po)) e2, Paired.keepM pr fun x y hx q => q.keep (fun u e => k _ u (.inr (.inl (hm x hx).1)) e) kt, hm⟩, h.sp, h.so, h.po, h.std, h.stds, h.len, fun a ha => (h.lv a ha).imp fun xs e => k a _ (.inr (.inl ha)) e⟩
theorem Bch.same {C : Addr} {H H' : Hp} {b S P : Addr} {ow : List Addr} {gs : List G} {past : List (List G)} (h : Bch C H b S P ow gs past) (s : AI H H') : Bch C H' b S P ow gs past := h.keep fun a u _ e => s a u e
noncomputable def DH (gs : List G) (p : Int) (o : List G) : List G := (gs.filter fun g => decide (g.p < p)) ++ (o ++ (gs.filter fun g => decide (p < g.p)))
theorem Ra {gs : List G} {p : Int} {o : List G} (h : Asc gs) (ho : Asc o) (hp : ∀ g ∈ o, g.p = p) : Asc (DH gs p o) := by
 unfold DH Asc at *
 refine List.pairwise_append.mpr ⟨h.filter _, List.pairwise_append.mpr ⟨ho, h.filter _, fun a ha b hb => ?_⟩, fun a ha b hb => ?_⟩
 ·have := of_decide_eq_true (List.mem_filter.mp hb).2
  rw [hp a ha]; exact this
 ·have h1 := of_decide_eq_true (List.mem_filter.mp ha).2
  rcases List.mem_append.mp hb with z | z
  ·rw [hp b z]; exact h1
  ·have := of_decide_eq_true (List.mem_filter.mp z).2
   lia
theorem Hk {gs : List G} {p : Int} {o : List G} {g : G} : g ∈ DH gs p o ↔ (g ∈ gs ∧ g.p ≠ p) ∨ g ∈ o := by
 unfold DH
 simp only [List.mem_append, List.mem_filter, decide_eq_true_eq]
 constructor
 ·rintro (⟨h, q⟩ | h | ⟨h, q⟩)
  ·exact .inl ⟨h, by lia⟩
  ·exact .inr h
  ·exact .inl ⟨h, by lia⟩
 ·rintro (⟨h, q⟩ | h)
  ·rcases Int.lt_or_gt_of_ne q with z | z
   ·exact .inl ⟨h, z⟩
   ·exact .inr (.inr ⟨h, z⟩)
  ·exact .inr (.inl h)
theorem FE {gs : List G} {p : Int} {o : List G} : (DH gs p o).Perm ((gs.filter fun g => !decide (g.p = p)) ++ o) := by
 unfold DH
 have h : ((gs.filter fun g => decide (g.p < p)) ++ (gs.filter fun g => decide (p < g.p))).Perm (gs.filter fun g => !decide (g.p = p)) := by
  induction gs with
  | nil => exact List.Perm.refl _
  | cons a gs ih =>
   simp only [List.filter_cons]
   rcases Int.lt_trichotomy a.p p with z | z | z
   ·simp only [decide_eq_true z, show decide (p < a.p) = false from decide_eq_false (by lia), show decide (a.p = p) = false from decide_eq_false (by lia), if_true, Bool.not_false, Bool.false_eq_true, if_false, List.cons_append]
    exact ih.cons _
   ·simp only [show decide (a.p < p) = false from decide_eq_false (by lia), show decide (p < a.p) = false from decide_eq_false (by lia), decide_eq_true z, Bool.not_true, Bool.false_eq_true, if_false]
    exact ih
   ·simp only [show decide (a.p < p) = false from decide_eq_false (by lia), decide_eq_true z, show decide (a.p = p) = false from decide_eq_false (by lia), if_true, Bool.not_false, Bool.false_eq_true, if_false]
    exact List.perm_middle.trans (ih.cons _)
 exact (List.perm_append_comm_assoc _ _ _).trans ((h.append_left o).trans List.perm_append_comm)
theorem Nq {gs : List G} {p : Int} {o : List G} : (DH gs p o).length = (gs.filter fun g => !decide (g.p = p)).length + o.length := by
 rw [FE.length_eq, List.length_append]
noncomputable abbrev AU (gs : List G) : List Int := gs.map G.p
noncomputable def A0 (gs : List G) (p : Int) : Option G := gs.find? fun g => decide (g.p = p)
theorem Bk {gs : List G} {p : Int} {g : G} (h : A0 gs p = some g) : g ∈ gs ∧ g.p = p := by
 have h1 := List.mem_of_find?_eq_some h
 have h2 := List.find?_some h
 exact ⟨h1, of_decide_eq_true h2⟩
theorem CT {gs : List G} {p : Int} : A0 gs p = none ↔ p ∉ AU gs := by
 unfold A0 AU
 rw [List.find?_eq_none]
 constructor
 ·intro h z
  obtain ⟨g, hg, e⟩ := List.mem_map.mp z
  exact h g hg (decide_eq_true e)
 ·intro h g hg z
  exact h (List.mem_map.mpr ⟨g, hg, of_decide_eq_true z⟩)
theorem Mt {gs : List G} (ha : Asc gs) {g : G} (hg : g ∈ gs) : A0 gs g.p = some g := by
 cases h : A0 gs g.p with
 | none => exact absurd (List.mem_map.mpr ⟨g, hg, rfl⟩) (CT.mp h)
 | some x =>
  obtain ⟨h1, h2⟩ := Bk h
  rw [OS ha h1 hg h2]
noncomputable abbrev InB (x : Int) : Prop := -1000 ≤ x ∧ x ≤ 1000
noncomputable def Df (p f h : Int) : Option Err := if h < f then some .upside else if InB p ∧ InB f ∧ InB h then none else some .bounds
theorem Fz {p f h : Int} : Df p f h = none ↔ OkG ⟨p, f, h⟩ := by
 unfold Df
 constructor
 ·intro z
  split at z
  ·cases z
  ·split at z
   ·rename_i h1 h2
    obtain ⟨⟨a, b⟩, ⟨c, d⟩, e, f1⟩ := h2
    exact ⟨a, b, c, by show f ≤ h; lia, f1⟩
   ·cases z
 ·rintro ⟨a, b, c, d, e⟩
  rw [if_neg (by simp only at *; lia), if_pos (by simp only at *; unfold InB; lia)]
noncomputable def Kc (gs : List G) (past : List (List G)) (p f h : Int) : Option Err :=
 if p ∈ AU gs then some .taken else (Df p f h).or (if 40 ≤ gs.length then some .full else if 300 ≤ past.length then some .deeds else none)
noncomputable def DO (past : List (List G)) : Option Err := if 300 ≤ past.length then some .deeds else none
noncomputable def Gk (gs : List G) (past : List (List G)) (p : Int) : Option Err := if p ∈ AU gs then DO past else some .nogate
noncomputable def Db (gs : List G) (past : List (List G)) (p x y : Int) : Option Err := match A0 gs p with
 | none => some .nogate
 | some g => (Df p (g.f + x) (g.h + y)).or (DO past)
noncomputable def Lu (past : List (List G)) (n : Int) : Option Err := if n < 1 then some .bounds else if past.length < n then some .nothing else none
theorem Std.put {gs : List G} {p f h : Int} (s : Std gs) (ok : OkG ⟨p, f, h⟩) (hl : (gs.filter fun g => !decide (g.p = p)).length < 40) : Std (DH gs p [⟨p, f, h⟩]) where
 asc := Ra s.asc (List.pairwise_singleton ..) fun g hg => by rw [List.mem_singleton.mp hg]
 ok := fun g hg => by
  rcases Hk.mp hg with z | z
  ·exact s.ok g z.1
  ·rw [List.mem_singleton.mp z]; exact ok
 len := by rw [Nq]; simp only [List.length_singleton]; lia
theorem Std.take {gs : List G} {p : Int} (s : Std gs) : Std (DH gs p []) where
 asc := Ra s.asc List.Pairwise.nil fun g hg => absurd hg (by simp)
 ok := fun g hg => by
  rcases Hk.mp hg with z | z
  ·exact s.ok g z.1
  ·exact absurd z (by simp)
 len := by
  rw [Nq]
  have := List.length_filter_le (fun g : G => !decide (g.p = p)) gs
  have := s.len
  simp only [List.length_nil]; lia
theorem Yz {gs : List G} {g : G} (hg : g ∈ gs) : (gs.filter fun x => !decide (x.p = g.p)).length < gs.length :=
 List.length_filter_lt_length_iff_exists.mpr ⟨g, hg, by simp⟩
theorem SD {gs : List G} {p : Int} (hp : p ∉ AU gs) : (gs.filter fun x => !decide (x.p = p)) = gs :=
 List.filter_eq_self.mpr fun g hg => by
  rw [decide_eq_false (fun z => hp (List.mem_map.mpr ⟨g, hg, z⟩))]; rfl
theorem Bch.off {C : Addr} {H : Hp} {b S P : Addr} {ow : List Addr} {gs : List G} {past : List (List G)} (h : Bch C H b S P ow gs past) {a : Addr} (n : H a = none) : a ∉ ow := fun z => by
 obtain ⟨_, e⟩ := h.lv a z
 rw [n] at e; cases e
theorem Bch.nep {C : Addr} {H : Hp} {b S P : Addr} {ow : List Addr} {gs : List G} {past : List (List G)} (h : Bch C H b S P ow gs past) {a : Addr} {u : HO} (e : H a = some u) (hu : ∀ xs, u ≠ .lst xs) : a ≠ P := fun z => by
 obtain ⟨_, e', _⟩ := h.pa
 rw [z, e'] at e; exact hu _ (Option.some.inj e).symm
theorem Bch.neb {C : Addr} {H : Hp} {b S P : Addr} {ow : List Addr} {gs : List G} {past : List (List G)} (h : Bch C H b S P ow gs past) {a : Addr} {u : HO} (e : H a = some u) (hu : ∀ C dx fs, u ≠ .ins C dx fs) : a ≠ b := fun z => by
 obtain ⟨_, e'⟩ := h.at_
 rw [z, e'] at e; exact hu _ _ _ (Option.some.inj e).symm
theorem Bch.tup {C : Addr} {H H' : Hp} {b S P : Addr} {ow : List Addr} {gs : List G} {past : List (List G)} (h : Bch C H b S P ow gs past) (k : Kp b P H H') {a : Addr} {xs : List V} (e : H a = some (.tup xs)) : H' a = some (.tup xs) :=
 k a _ (h.neb e fun _ _ _ z => by cases z) (h.nep e fun _ z => by cases z) e
theorem Bch.dk {C : Addr} {H H' : Hp} {b S P : Addr} {ow : List Addr} {gs : List G} {past : List (List G)} (h : Bch C H b S P ow gs past) (k : Kp b P H H') {a : Addr} {xs : List (Key × V)} (e : H a = some (.dK xs)) : H' a = some (.dK xs) :=
 k a _ (h.neb e fun _ _ _ z => by cases z) (h.nep e fun _ z => by cases z) e
theorem Bch.lst {C : Addr} {H H' : Hp} {b S P : Addr} {ow : List Addr} {gs : List G} {past : List (List G)} (h : Bch C H b S P ow gs past) (k : Kp b P H H') {a : Addr} {xs : List V} (e : H a = some (.lst xs)) (ha : a ∉ ow) : H' a = some (.lst xs) :=
 k a _ (h.neb e fun _ _ _ z => by cases z) (fun z => ha (z ▸ h.po)) e
theorem Tv {ow ow' : List Addr} {H : Hp} (o : ∀ a ∈ ow', a ∈ ow ∨ H a = none) {a : Addr} {u : HO} (e : H a = some u) (ha : a ∉ ow) : a ∉ ow' := fun z => by
 rcases o a z with z | z
 ·exact ha z
 ·rw [z] at e; cases e
theorem Q0 {p : Int} : ∀ l : List Int, inV (.int p) (l.map V.int) = decide (p ∈ l)
 | [] => rfl
 | a :: l => by
  show (eqV (.int a) (.int p) || inV (.int p) (l.map V.int)) = _
  rw [Q0 l]
  have e : eqV (.int a) (.int p) = decide (p = a) := by
   show decide (a = p) = decide (p = a)
   exact decide_eq_decide.mpr eq_comm
  rw [e, ← Bool.decide_or]
  exact decide_eq_decide.mpr List.mem_cons.symm
theorem SJ (l : List Int) : (l.map V.int).all LQ = true := by
 rw [List.all_eq_true]
 intro x hx
 obtain ⟨i, _, rfl⟩ := List.mem_map.mp hx
 rfl
theorem Wk {gs : List G} : (gs.filter fun _ => true) = gs := List.filter_eq_self.mpr fun _ _ => rfl
end TG
namespace L2
open PySem PySem.Spec PyProof.Rows
section
variable {prog : Program} {w : World} {A : Around} {E : Value → Shared → Prop} {s : Shared}
theorem Qe {it t : Addr} {items : Array Value} (hne : t ≠ it) : ∀ (n i : Nat) (s : Shared) (Q : List Value → Shared → Prop), s.heap.IsListIter it t i → s.heap.IsList t items → i + n ≤ items.size →
  (∀ h', h'.IsListIter it t (i + n) → Heap.SameBut it s.heap h' → Q ((items.toList.drop i).take n) { s with heap := h' }) → wpAny (model prog w) A (draw (.ref it) n) Q E s
 | 0, i, s, Q, hit, _, _, hQ => by
  show wpAny _ _ (pure []) Q E s
  exact wpAny_pure (by simpa using hQ s.heap hit (Heap.SameBut.refl ..))
 | n + 1, i, s, Q, hit, ht, hle, hQ => by
  have hlt : i < items.size := by lia
  show wpAny _ _ (pyNext (.ref it) >>= _) Q E s
  refine wpAny_bind (wpAny_pyNext_list_item hit ht (x := items[i]) (by simp [hlt]) fun h₁ hit₁ hs₁ => ?_)
  refine wpAny_bind (wpAny_holding (Qe hne n (i + 1) _ _ hit₁ (ht.at fun o e => (hs₁.2 t hne).trans e) (by lia) fun h₂ hit₂ hs₂ => wpAny_pure ?_))
  have hd : items.toList.drop i = items[i] :: items.toList.drop (i + 1) := by simp [List.drop_eq_getElem_cons, hlt]
  have := hQ h₂ (by rw [show i + (n + 1) = i + 1 + n by lia]; exact hit₂) (hs₁.trans hs₂)
  rw [hd, List.take_succ_cons] at this
  exact this
theorem Mn {t : Addr} {items : Array Value} {Q : List Value → Shared → Prop} (hh : A.handled = none) (ht : s.heap.IsList t items)
  (hQ : ∀ h', Heap.ExtBut s.heap.objs.size s.heap h' → Q items.toList { s with heap := h' }) : wpAny (model prog w) A (unpackItems (.ref t) items.size none) Q E s := by
 have hlt : t ≠ s.heap.objs.size := by obtain ⟨o, ho, _⟩ := ht; exact Nat.ne_of_lt (Heap.lt_size ho)
 unfold unpackItems
 refine wpAny_bind ?_
 ·unfold notIterableAtAll
  refine wpAny_bind (wpAny_specialOf ht.typeIs slot_list_iter.lookup ?_)
  refine wpAny_pure ?_
  simp only [Bool.false_eq_true, if_false]
  refine wpAny_bind (wpAny_holding (wpAny_pyIter_list ht ?_))
  refine wpAny_bind (wpAny_holding (Qe hlt items.size 0 _ _ ⟨_, Heap.get?_push_size _ rfl, rfl, rfl⟩ (ht.at fun o e => Heap.get?_push_of_some _ e) (by lia) fun h₁ hit₁ hs₁ => ?_))
  have hall : List.take items.size (List.drop 0 items.toList) = items.toList := by
   rw [List.drop_zero]; exact List.take_of_length_le (by simp)
  rw [hall]
  rw [if_neg (by simp)]
  have ht₁ : h₁.IsList t items := ht.at fun o e => (hs₁.2 t hlt).trans (Heap.get?_push_of_some _ e)
  refine wpAny_bind (wpAny_holding (wpAny_pyNext_list_end hh hit₁ ht₁ (by simp) fun h₂ he₂ => ?_))
  simp only [Option.isSome_none, Bool.false_eq_true, if_false]
  refine wpAny_pure (hQ h₂ fun b o hb e => he₂ b o hb (hs₁.extBut b o hb (Heap.get?_push_of_some _ e)))
theorem Kl {env : Env} {elts : List Expr} {x1} {pos : Pos} {t : Addr} {items : Array Value} {Q : Unit → Shared → Prop} (hh : A.handled = none) (ht : s.heap.IsList t items)
  (hn : (assignEach elts env).length = items.size) (hstar : (assignEach elts env).findIdx? (·.1) = none)
  (h : ∀ h', Heap.ExtBut s.heap.objs.size s.heap h' → wpAny (model prog w) A (assignInOrder ((assignEach elts env).map (·.2)) items.toList) Q E { s with heap := h' }) :
  wpAny (model prog w) A (assign (.Tuple elts x1 pos) env (.ref t)) Q E s := by
 rw [assign_Tuple]
 refine wpAny_bind (wpAny_standAt ?_)
 unfold unpack
 rw [hn, hstar]
 exact wpAny_bind (wpAny_holding (Mn hh ht h))
end
section
variable {X : Cx} {pos : Pos}
noncomputable def PY (K : PySem.W.Frag) (n : Nat) (t : TGs) : TG := fun v σ H Q => ∃ a xs, v = .ref a ∧ SqL K H a xs ∧ xs.length = n ∧ t xs σ H Q
theorem Yi {es : List Expr} {k : Nat} {t : TGs} {n : Nat} (hc : X.calm = true) (h : PGs X es t)
  (hn : (assignEach es X.env).length = n := by rfl) (hst : (assignEach es X.env).findIdx? (·.1) = none := by rfl) : PG X (.Tuple es k pos) (PY X.K n t) := by
 intro pins s σ H v u Q I r hw
 obtain ⟨a, xs, e1, hq, hl, hw⟩ := hw
 subst e1
 cases r
 obtain ⟨its, rv, ht, hz⟩ := I.list hq
 refine Kl (I.ok.hd hc) ht.isList (by simp [hn, ← hl, rv.length]) hst fun h' hx => ?_
 have I1 : Inv X pins σ H { s with heap := h' } := I.kept (t' := s.toks) fun b o e => hx b o (Nat.ne_of_lt (Heap.lt_size e)) e
 exact h pins _ σ H xs _ Q I1 (by simpa using rv) hw
noncomputable def T9 : V → List V → Hp → VK → Prop := fun x vs H Q => ∃ a kvs, x = .ref a ∧ vs = [] ∧ H a = some (.dK kvs) ∧ Q .non (upd H a (.dK []))
theorem VA : MtR X "dict.clear" T9 := by
 intro pins s σ H x vs v us Q I rx rv h
 obtain ⟨a, kvs, rfl, rfl, e, q⟩ := h
 cases rx
 cases rv
 obtain ⟨z, hd, ws, rel, dd⟩ := Pt I.hok e
 refine call_meetsIn PySem.F.slot_dict_clear dd.typeIs PySem.F.entry_dict_clear (PySem.F.args_dict_clear_1 _) (meets_dict_clear (BJ X.prog X.w) a) ⟨ws, dd, by rw [← Paired.length rel]; exact z, fun h' dd' hs => ?_⟩
 have he : ∃ q, h'.get? a = some q := let ⟨q, _, _, hq, _⟩ := dd'; ⟨q, hq⟩
 exact ⟨.non, _, LV I (by rw [e]; exact True.intro) hs he (Qs (Nat.zero_le _) hd .nil dd'), rfl, q⟩
noncomputable def X1 : V → List V → Hp → VK → Prop := fun x vs H Q => ∃ a b more, x = .ref a ∧ vs = [.ref b] ∧ a ≠ b ∧ H a = some (.dK []) ∧ H b = some (.dK more) ∧ Q .non (upd H a (.dK more))
theorem XY : MtR X "dict.update" X1 := by
 intro pins s σ H x vs v us Q I rx rv h
 obtain ⟨a, b, more, rfl, rfl, hab, e, e2, q⟩ := h
 cases rx
 obtain ⟨u, rfl, ru⟩ := vals1 rv
 cases ru
 obtain ⟨z, hd, ws, rel, dd⟩ := Pt I.hok e
 obtain ⟨z2, hd2, ws2, rel2, dd2⟩ := Pt I.hok e2
 cases rel
 have hn : (ws2.map (·.1)).Nodup := let ⟨_, _, _, _, _, _, _, _, hn⟩ := dd2; hn
 refine call_meetsIn PySem.F.slot_dict_update dd.typeIs PySem.F.entry_dict_update (PySem.F.args_dict_update_2 _ _) (meets_dict_update (BJ X.prog X.w) a b hab hd2) ⟨[], ws2, dd, dd2, by rw [← Paired.length rel2, List.length_nil, Nat.zero_add]; exact z2, fun h' dd' _ hs => ?_⟩
 rw [merged_nil_of_nodup ws2 hn] at dd'
 have he : ∃ q, h'.get? a = some q := let ⟨q, _, _, hq, _⟩ := dd'; ⟨q, hq⟩
 exact ⟨.non, _, LV I (by rw [e]; exact True.intro) hs he (Qs z2 hd rel2 dd'), rfl, q⟩
noncomputable def Er : List V → Hp → VK → Prop := fun vs H Q => ∃ b more, vs = [.ref b] ∧ H b = some (.dK more) ∧ ∀ p H', H p = none → AI H H' → H' p = some (.dK more) → Q (.ref p) H'
theorem Sz : B1 X (.type "dict") Er := by
 intro pins s σ H xs us Q I r h
 obtain ⟨b, more, rfl, e2, q⟩ := h
 obtain ⟨u, rfl, rx⟩ := vals1 r
 cases rx
 obtain ⟨z2, hd2, ws2, rel2, dd2⟩ := Pt I.hok e2
 refine kt_call_dict hd2 dd2 (by rw [← Paired.length rel2]; exact z2) fun h' dd' hs => ?_
 have nf : H s.heap.objs.size = none := I.hok.fresh (Nat.le_refl _)
 have hsys : (s.heap.objs.size == sysModules) = false := beq_false_of_ne (Nat.ne_of_gt I.big)
 refine ⟨.ref s.heap.objs.size, upd H s.heap.objs.size (.dK more), I.laid (t' := s.toks) (fun c o e => (hs.2 c (Nat.ne_of_lt (Heap.lt_size e))).trans (Heap.get?_push_of_some _ e)) (Nat.le_refl _) ?_, rfl, q _ _ nf (A4 nf) AQ⟩
 exact ⟨z2, hsys, ws2, rel2, dd'⟩
end
theorem J9 {X : Cx} : En (CXE X.prog X.w) X E0 := fun _ _ _ _ _ _ _ ⟨_, _, _, _, _, _, _, _, _, h⟩ => h.elim
theorem Xa : bootBuiltins "dict" = some (.type "dict") := by decide +kernel
structure Ys (K : PySem.W.Frag) (x qual : Str) (st : Stmt) (f : Addr) (fd : FuncData) : Prop where
 ex : ∃ (dV oc : Value) (od : Option Addr) (kV doc pm : Value) (an : Option Addr) (cdv ct : Value) (osl : Array (Option Value)),
  fd = PySem.W.fnOf x qual (Bz st) (BR st) (AG st) dV kV doc pm an cdv ct ∧ K.lookup f = some ⟨oc, od, .func fd, osl⟩ ∧ PySem.W.codeIn K cdv qual = true
 kp : PySem.W.keepIn K (.ref f) = true
theorem Ys.okX {P : Program} {w : World} {K : PySem.W.Frag} {mg : Str → Option Value} {base : Heap} {x qual : Str} {st : Stmt} {f : Addr} {fd : FuncData} {N ps : List Str} {k : Nat} {sp : Sp} (F : Ys K x qual st f fd) (S : AO N ps (AG st)) (len : ∀ vs H Q E, sp vs H Q E → vs.length = ps.length)
  (hbody : ∀ (cdv : Value) (A : Around) (outer : List Env) (s : Shared) (H : Hp) (vs : List V) (Q : VK) (E : XK), CJ k (A.deeper (envOfC qual (AG st) s.heap.objs.size f cdv)) → sp vs H Q E →
   ∃ t, PSs (Fd (CXE P w) P w K mg base N qual (AG st) f cdv A outer s H E) (BR st) t ∧ t { nx := fun _ H' => Q .non H', rt := Q } (start N vs) H) : Ao P w K mg base (CXE P w) (k + 1) f fd ps sp := by
 obtain ⟨dV, oc, od, kV, doc, pm, an, cdv, ct, osl, rfl, lk, hcd⟩ := F.ex
 exact UE lk hcd S len fun A outer s H vs Q E hr hsp => hbody cdv A outer s H vs Q E hr hsp
structure DMD (K : PySem.W.Frag) (C : Addr) (x qual : Str) (st : Stmt) (ps : List Str) (f : Addr) (fd : FuncData) (dvs : List V) : Prop where
 F : Ys K x qual st f fd
 mt : Ts K C x f
 b : Binds K fd ps []
 bd : ∃ ds, As dvs ds ∧ Binds K fd ps ds
end L2
namespace TG
open PySem L2
structure A3 (H : Hp) (D : Addr) (gs : List G) : Prop where
 at_ : ∃ (kvs : List (Key × V)) (ks : List Int), H D = some (.dK kvs) ∧ kvs.map (·.1) = ks.map Sum.inl ∧ ks.Perm (AU gs) ∧ ∀ g ∈ gs, ∃ a, CB kvs (.inl g.p) = some (.ref a) ∧ H a = some (.tup [.int g.f, .int g.h])
theorem A3.keep {H H' : Hp} {D : Addr} {gs : List G} (h : A3 H D gs) (kd : ∀ kvs, H D = some (.dK kvs) → H' D = some (.dK kvs)) (kt : ∀ a xs, H a = some (.tup xs) → H' a = some (.tup xs)) : A3 H' D gs := by
 obtain ⟨kvs, ks, e, e2, p, q⟩ := h.at_
 exact ⟨kvs, ks, kd _ e, e2, p, fun g hg => (q g hg).imp fun a z => ⟨z.1, kt _ _ z.2⟩⟩
theorem A3.same {H H' : Hp} {D : Addr} {gs : List G} (h : A3 H D gs) (s : AI H H') : A3 H' D gs := h.keep (fun _ e => s _ _ e) fun _ _ e => s _ _ e
theorem A3.kp {C b S P : Addr} {ow : List Addr} {gs0 : List G} {past : List (List G)} {H H' : Hp} {D : Addr} {gs : List G} (h : A3 H D gs) (hb : Bch C H b S P ow gs0 past) (k : Kp b P H H') : A3 H' D gs :=
 h.keep (fun _ e => hb.dk k e) fun _ _ e => hb.tup k e
theorem A3.none {H : Hp} {D : Addr} {kvs : List (Key × V)} {ks : List Int} {gs : List G} (e2 : kvs.map (·.1) = ks.map Sum.inl) (p : ks.Perm (AU gs)) {x : Int} (hx : x ∉ AU gs) : CB kvs (.inl x : Key) = Option.none := by
 cases h : CB kvs (.inl x : Key) with
 | none => rfl
 | some v =>
  have := Xf h
  rw [e2] at this
  obtain ⟨y, hy, z⟩ := List.mem_map.mp this
  cases z
  exact absurd (p.mem_iff.mp hy) hx
theorem A3.get {H : Hp} {D : Addr} {gs : List G} (h : A3 H D gs) (x : Int) : ∃ o, G1 H D (.int x) o ∧ (A0 gs x = Option.none → o = Option.none) ∧ ∀ g, A0 gs x = some g → ∃ a, o = some (.ref a) ∧ H a = some (.tup [.int g.f, .int g.h]) := by
 obtain ⟨kvs, ks, e, e2, p, q⟩ := h.at_
 refine ⟨_, G1.k (k := .inl x) e, fun n => A3.none (H := H) (D := D) e2 p (CT.mp n), fun g hg => ?_⟩
 obtain ⟨h1, h2⟩ := Bk hg
 obtain ⟨a, z1, z2⟩ := q g h1
 rw [h2] at z1
 exact ⟨a, z1, z2⟩
theorem A3.isD {H : Hp} {D : Addr} {gs : List G} (h : A3 H D gs) : IsD H D := by
 obtain ⟨kvs, ks, e, _⟩ := h.at_
 exact .inl ⟨kvs, .inl e⟩
theorem A3.len {H : Hp} {D : Addr} {gs : List G} (h : A3 H D gs) : ∃ kvs, H D = some (.dK kvs) ∧ kvs.length = gs.length := by
 obtain ⟨kvs, ks, e, e2, p, _⟩ := h.at_
 refine ⟨kvs, e, ?_⟩
 have h1 := congrArg List.length e2
 have h2 := p.length_eq
 simp at h1 h2
 lia
theorem Ez {gs : List G} {x : Int} {o : List G} : (AU (DH gs x o)).Perm ((AU gs).filter (fun y => decide (y ≠ x)) ++ AU o) := by
 have h := (FE (gs := gs) (p := x) (o := o)).map G.p
 rw [List.map_append] at h
 refine h.trans (List.Perm.append_right _ (List.Perm.of_eq ?_))
 unfold AU
 clear h
 induction gs with
 | nil => rfl
 | cons g gs ih =>
  by_cases e : g.p = x
  ·rw [List.filter_cons_of_neg (by simp [e]), List.map_cons, List.filter_cons_of_neg (by simp [e]), ih]
  ·rw [List.filter_cons_of_pos (by simp [e]), List.map_cons, List.map_cons, List.filter_cons_of_pos (by simp [e]), ih]
theorem P9 {kvs : List (Key × V)} {k : Key} {v : V} : (Cz kvs k v).map (·.1) = if (CB kvs k).isSome = true then kvs.map (·.1) else kvs.map (·.1) ++ [k] := by
 unfold Cz
 rw [FG]
 split
 ·rw [List.map_map]
  refine List.map_congr_left fun p _ => ?_
  show (if p.1 = k then (p.1, v) else p).1 = p.1
  split <;> rfl
 ·rw [List.map_append]; rfl
theorem A3.put {H H' : Hp} {D a : Addr} {gs : List G} {x f h : Int} (s : Std gs) (d : A3 H D gs) (ea : H a = some (.tup [.int f, .int h])) (hp : Se H D (.int x) (.ref a) H') : A3 H' D (DH gs x [⟨x, f, h⟩]) := by
 obtain ⟨kvs, ks, e, e2, p, q⟩ := d.at_
 rcases hp with ⟨kvs', k, e', ek, _, rfl⟩ | ⟨_, _, _, e', _⟩
 ·rw [e] at e'
  cases e'
  have hk : k = .inl x := by
   cases k with
   | inl i => cases ek; rfl
   | inr y => cases ek
  subst hk
  have kt : ∀ c xs, H c = some (.tup xs) → upd H D (.dK (Cz kvs (.inl x) (.ref a))) c = some (.tup xs) := fun c xs z => (AN (Be z e (fun z => by cases z))).trans z
  have hmem : ∀ g, g ∈ DH gs x [⟨x, f, h⟩] → ∃ c, CB (Cz kvs (.inl x) (.ref a)) (.inl g.p) = some (.ref c) ∧ upd H D (.dK (Cz kvs (.inl x) (.ref a))) c = some (.tup [.int g.f, .int g.h]) := fun g hg => by
   rcases Hk.mp hg with ⟨h1, h2⟩ | h1
   ·obtain ⟨c, z1, z2⟩ := q g h1
    refine ⟨c, ?_, kt _ _ z2⟩
    rw [OU, if_neg (fun z => h2 (Sum.inl.inj z))]
    exact z1
   ·rw [List.mem_singleton.mp h1]
    exact ⟨a, by rw [OU, if_pos rfl], kt _ _ ea⟩
  have nd : (AU gs).Nodup := s.nd
  by_cases hx : x ∈ AU gs
  ·obtain ⟨g, hg, eg⟩ := List.mem_map.mp hx
   obtain ⟨c, z1, _⟩ := q g hg
   rw [eg] at z1
   refine ⟨_, ks, AQ, by rw [P9, z1]; exact e2, ?_, hmem⟩
   refine p.trans (List.Perm.trans ?_ Ez.symm)
   have := (List.perm_cons_erase hx).trans (List.perm_append_singleton x _).symm
   rw [nd.erase_eq_filter] at this
   refine this.trans (List.Perm.of_eq ?_)
   show _ = _ ++ [x]
   congr 1
   exact List.filter_congr fun y _ => by
    by_cases h : y = x
    ·simp [h]
    ·simp [h, bne]
  ·refine ⟨_, ks ++ [x], AQ, by rw [P9, A3.none (H := H) (D := D) e2 p hx, if_neg (by simp), e2, List.map_append]; rfl, ?_, hmem⟩
   refine List.Perm.trans (p.append_right [x]) (List.Perm.trans (List.Perm.of_eq ?_) Ez.symm)
   show _ = _ ++ [x]
   congr 1
   refine (List.filter_eq_self.mpr fun y hy => ?_).symm
   have hy' : y ≠ x := fun z => hx (by rw [← z]; exact hy)
   simp [hy']
 ·rw [e] at e'
  cases e'
theorem A3.pop {H : Hp} {D : Addr} {gs : List G} {g : G} (d : A3 H D gs) (hg : g ∈ gs) : ∃ kvs a, H D = some (.dK kvs) ∧ CB kvs (.inl g.p) = some (.ref a) ∧ A3 (upd H D (.dK (Dd kvs (.inl g.p)))) D (DH gs g.p []) := by
 obtain ⟨kvs, ks, e, e2, p, q⟩ := d.at_
 obtain ⟨a, z1, z2⟩ := q g hg
 have kt : ∀ c xs, H c = some (.tup xs) → upd H D (.dK (Dd kvs (.inl g.p))) c = some (.tup xs) := fun c xs z => (AN (Be z e (fun z => by cases z))).trans z
 refine ⟨kvs, a, e, z1, ⟨_, ks.filter (fun y => decide (y ≠ g.p)), AQ, ?_, ?_, fun x hx => ?_⟩⟩
 ·have : ∀ (kvs : List (Key × V)) (ks : List Int), kvs.map (·.1) = ks.map Sum.inl → (Dd kvs (.inl g.p)).map (·.1) = (ks.filter fun y => decide (y ≠ g.p)).map Sum.inl := fun kvs => by
   induction kvs with
   | nil => intro ks h; cases ks with
    | nil => rfl
    | cons _ _ => cases h
   | cons kv kvs ih => intro ks h; cases ks with
    | nil => cases h
    | cons k ks =>
     simp only [List.map_cons, List.cons.injEq] at h
     have ih := ih ks h.2
     unfold Dd at *
     by_cases ek : k = g.p
     ·rw [List.filter_cons_of_neg (by rw [h.1, ek]; simp), List.filter_cons_of_neg (by simp [ek])]
      exact ih
     ·rw [List.filter_cons_of_pos (by rw [h.1]; simp [ek]), List.filter_cons_of_pos (by simp [ek]), List.map_cons, List.map_cons, ih, h.1]
  exact this kvs ks e2
 ·have := (p.filter (fun y => decide (y ≠ g.p))).trans (List.Perm.of_eq (List.append_nil _).symm)
  exact this.trans (Ez (gs := gs) (x := g.p) (o := [])).symm
 ·rcases Hk.mp hx with ⟨h1, h2⟩ | h1
  ·obtain ⟨c, y1, y2⟩ := q x h1
   refine ⟨c, ?_, kt _ _ y2⟩
   rw [← y1]
   have : ∀ kvs : List (Key × V), CB (Dd kvs (.inl g.p)) (.inl x.p) = CB kvs (.inl x.p) := fun kvs => by
    induction kvs with
    | nil => rfl
    | cons kv kvs ih =>
     by_cases ek : kv.1 = .inl g.p
     ·rw [Ul ek, ih, Bc (fun z => h2 (Sum.inl.inj (z.symm.trans ek)))]
     ·rw [VQ ek]
      by_cases ex : kv.1 = .inl x.p
      ·rw [Bg ex, Bg ex]
      ·rw [Bc ex, Bc ex, ih]
   exact this kvs
  ·cases h1
theorem A3.nil {H : Hp} {D : Addr} (e : H D = some (.dK [])) : A3 H D [] := ⟨[], [], e, rfl, List.Perm.refl _, fun _ h => absurd h (by simp)⟩
theorem Kh : ∀ {xs ys : List Int}, xs.Pairwise (· ≤ ·) → ys.Pairwise (· < ·) → xs.Perm ys → xs = ys
 | [], ys, _, _, h => (List.nil_perm.mp h).symm
 | x :: xs, [], _, _, h => absurd h (by intro z; have := z.length_eq; simp at this)
 | x :: xs, y :: ys, h1, h2, h => by
  obtain ⟨a1, a2⟩ := List.pairwise_cons.mp h1
  obtain ⟨b1, b2⟩ := List.pairwise_cons.mp h2
  have e : x = y := by
   have hx : x ∈ y :: ys := h.mem_iff.mp List.mem_cons_self
   have hy : y ∈ x :: xs := h.mem_iff.mpr List.mem_cons_self
   rcases List.mem_cons.mp hx with e | hx
   ·exact e
   ·rcases List.mem_cons.mp hy with e | hy
    ·exact e.symm
    ·have := a1 y hy
     have := b1 x hx
     lia
  subst e
  rw [Kh a2 b2 ((List.perm_cons x).mp h)]
theorem JT {gs : List G} (h : Asc gs) : (AU gs).Pairwise (· < ·) := List.pairwise_map.mpr h
theorem S2 {K : PySem.W.Frag} {a : Addr} {gs : List G} {te : TE} {caps : St} {D : Addr} {H1 : Hp} {Q : Hp → Prop} (hl : SqL K H1 a ((AU gs).map V.int)) (hD : H1 D = none) (hz : gs.length ≤ 1000)
  (he : ∀ g H (R : VK), g ∈ gs → AI H1 H → (∀ p H', H p = none → AI H H' → H' p = some (.tup (G.vs g)) → R (.ref p) H') → te (some (.int g.p) :: caps) H R)
  (hd : ∀ H as, AI H1 H → H D = some (.lst (as.map V.ref)) → At H as gs → Q H) : Gr te G8 caps (Itl K a) D H1 Q := by
 have hlen : ((AU gs).map V.int).length = gs.length := by rw [List.length_map, List.length_map]
 refine CA (xs := (AU gs).map V.int) (fun i ys H => ∃ as : List Addr, ys = as.map V.ref ∧ AI H1 H ∧ H D = some (.lst ys) ∧ At H as (gs.take i)) ⟨[], rfl, A4 hD, AQ, .nil⟩ (fun _ _ H _ ⟨_, _, s1, _⟩ => s1.seq hl) ?_ ?_
 ·rintro i x ys H hx ⟨as, rfl, s1, e1, g1⟩
  have hi : i < gs.length := by
   have := (List.getElem?_eq_some_iff.mp hx).1
   lia
  have ex : x = V.int gs[i].p := by
   rw [List.getElem?_map, List.getElem?_map, List.getElem?_eq_getElem hi] at hx
   exact (Option.some.inj hx).symm
  subst ex
  have et : gs.take (i + 1) = gs.take i ++ [gs[i]] := List.take_succ_eq_append_getElem hi
  have lg := g1.len
  rw [List.length_take] at lg
  unfold G8
  dsimp only
  rw [if_pos rfl]
  refine he gs[i] H _ (List.getElem_mem hi) s1 fun p H2 n2 s2 e2 => ?_
  have nD2 : p ≠ D := fun z => by rw [z, e1] at n2; cases n2
  refine ⟨s2.get e1, by rw [List.length_map, PySem.sizeLine_eq]; lia, _, by lia, rfl, by lia, as ++ [p], by rw [List.map_append]; rfl, (s1.trans s2).updFresh hD, AQ, ?_⟩
  rw [et]
  exact (At.snoc (g1.same s2) e2).fresh (fun ys z => by rw [s2.get e1] at z; cases z)
 ·rintro ys H ⟨as, rfl, s1, e1, g1⟩
  rw [hlen, List.take_length] at g1
  exact hd H as s1 e1 g1
structure Kept (ow : List Addr) (H H' : Hp) (ow' : List Addr) : Prop where
 tup : ∀ c xs, H c = some (.tup xs) → H' c = some (.tup xs)
 lst : ∀ c xs, c ∉ ow → H c = some (.lst xs) → H' c = some (.lst xs)
 frz : ∀ c o u, H c = some (.frz o u) → H' c = some (.frz o u)
 off : ∀ c ∈ ow', c ∈ ow ∨ H c = none
 live : ∀ c u, H c = some u → ∃ u', H' c = some u'
 tbl : ∀ c ps, H c = some (.tbl ps) → H' c = some (.tbl ps)
theorem Kept.of {ow : List Addr} {H H' : Hp} (s : AI H H') : Kept ow H H' ow := ⟨fun _ _ e => s _ _ e, fun _ _ _ e => s _ _ e, fun _ _ _ e => s _ _ e, fun _ h => .inl h, fun _ u e => ⟨u, s _ _ e⟩, fun _ _ e => s _ _ e⟩
theorem Kept.refl {ow : List Addr} {H : Hp} : Kept ow H H ow := Kept.of (AI.refl _)
theorem Kept.trans {ow ow1 ow2 : List Addr} {H H1 H2 : Hp} (a : Kept ow H H1 ow1) (b : Kept ow1 H1 H2 ow2) : Kept ow H H2 ow2 where
 tup := fun c xs e => b.tup c xs (a.tup c xs e)
 lst := fun c xs n e => b.lst c xs (fun z => by
  rcases a.off c z with z | z
  ·exact n z
  ·rw [z] at e; cases e) (a.lst c xs n e)
 frz := fun c o u e => b.frz c o u (a.frz c o u e)
 off := fun c h => by
  rcases b.off c h with z | z
  ·exact a.off c z
  ·refine .inr ?_
   cases q : H c with
   | none => rfl
   | some u => obtain ⟨u', e⟩ := a.live c u q; rw [z] at e; cases e
 live := fun c u e => let ⟨u', e'⟩ := a.live c u e; b.live c u' e'
 tbl := fun c ps e => b.tbl c ps (a.tbl c ps e)
theorem Kept.same {ow ow1 : List Addr} {H H1 H2 : Hp} (a : Kept ow H H1 ow1) (s : AI H1 H2) : Kept ow H H2 ow1 := a.trans (Kept.of s)
theorem Kept.kp {C b S P S' P' : Addr} {ow ow' : List Addr} {gs gs' : List G} {past past' : List (List G)} {H H' : Hp} (hb : Bch C H b S P ow gs past) (k : Kp b P H H') (hb' : Bch C H' b S' P' ow' gs' past') (o : ∀ a ∈ ow', a ∈ ow ∨ H a = none) (hl : ∃ u, H' P = some u) : Kept ow H H' ow' where
 tup := fun c xs e => hb.tup k e
 lst := fun c xs n e => hb.lst k e n
 frz := fun c o u e => k c _ (hb.neb e fun _ _ _ z => by cases z) (hb.nep e fun _ z => by cases z) e
 off := o
 live := fun c u e => by
  by_cases h1 : c = b
  ·obtain ⟨dx, z⟩ := hb'.at_; rw [h1]; exact ⟨_, z⟩
  ·by_cases h2 : c = P
   ·rw [h2]; exact hl
   ·exact ⟨u, k c u h1 h2 e⟩
 tbl := fun c ps e => k c _ (hb.neb e fun _ _ _ z => by cases z) (hb.nep e fun _ z => by cases z) e
noncomputable def Scr (K : PySem.W.Frag) (ow : List Addr) (H : Hp) (a : Addr) (xs : List V) : Prop := (H a = some (.lst xs) ∧ a ∉ ow) ∨ (∃ o, H a = some (.frz o (.lst xs))) ∨ ∀ H', SqL K H' a xs
theorem Scr.sq {K : PySem.W.Frag} {ow : List Addr} {H : Hp} {a : Addr} {xs : List V} (h : Scr K ow H a xs) : SqL K H a xs := by
 rcases h with ⟨h, _⟩ | ⟨o, h⟩ | h
 ·exact .inl (.inl h)
 ·exact .inl (.inr ⟨o, h⟩)
 ·exact h H
theorem Scr.kept {K : PySem.W.Frag} {ow ow' : List Addr} {H H' : Hp} {a : Addr} {xs : List V} (h : Scr K ow H a xs) (k : Kept ow H H' ow') : Scr K ow' H' a xs := by
 rcases h with ⟨h, n⟩ | ⟨o, h⟩ | h
 ·exact .inl ⟨k.lst _ _ n h, Tv k.off h n⟩
 ·exact .inr (.inl ⟨o, k.frz _ _ _ h⟩)
 ·exact .inr (.inr h)
theorem Scr.of {K : PySem.W.Frag} {ow : List Addr} {H H' : Hp} {a : Addr} {xs : List V} (h : SqL K H a xs) (ho : ∀ c ∈ ow, H c = none) (s : AI H H') : Scr K ow H' a xs := by
 rcases h with (h | ⟨o, h⟩) | h
 ·exact .inl ⟨s.get h, fun z => by rw [ho a z] at h; cases h⟩
 ·exact .inr (.inl ⟨o, s.get h⟩)
 ·exact .inr (.inr fun _ => .inr h)
theorem V8 {G0 gs : List G} {k : Nat} (hp : G0.Perm (gs.take k)) (hk : k < gs.length) (nd : (gs.map G.p).Nodup) (h40 : gs.length ≤ 40) (ok : ∀ g ∈ gs, OkG g) {past : List (List G)} (hl : past.length < 300) :
  Kc G0 past gs[k].p gs[k].f gs[k].h = none ∧ (DH G0 gs[k].p [⟨gs[k].p, gs[k].f, gs[k].h⟩]).Perm (gs.take (k + 1)) := by
 have hn : gs[k].p ∉ AU G0 := fun z => by
  obtain ⟨g, hg, e⟩ := List.mem_map.mp z
  have hg2 := hp.mem_iff.mp hg
  obtain ⟨j, hj, ej⟩ := List.getElem_of_mem hg2
  rw [List.length_take] at hj
  rw [List.getElem_take] at ej
  have hjk : j < k := by lia
  have h1 : (gs.map G.p)[j]'(by rw [List.length_map]; lia) = (gs.map G.p)[k]'(by rw [List.length_map]; lia) := by
   rw [List.getElem_map, List.getElem_map, ej, e]
  exact List.pairwise_iff_getElem.mp nd j k (by rw [List.length_map]; lia) (by rw [List.length_map]; lia) hjk h1
 have hl2 := hp.length_eq
 rw [List.length_take] at hl2
 constructor
 ·unfold Kc
  rw [if_neg hn, (Fz (p := gs[k].p) (f := gs[k].f) (h := gs[k].h)).mpr (ok gs[k] (List.getElem_mem hk)), if_neg (by lia), if_neg (by lia)]
  rfl
 ·refine FE.trans ?_
  rw [SD hn, List.take_succ_eq_append_getElem hk]
  exact hp.append_right _
theorem A3.dput {H : Hp} {D a : Addr} {gs : List G} {x f h : Int} (s : Std gs) (d : A3 H D gs) (ea : H a = some (.tup [.int f, .int h])) :
  ∃ kvs kvs', H D = some (.dK kvs) ∧ Se H D (.int x) (.ref a) (upd H D (.dK kvs')) ∧ A3 (upd H D (.dK kvs')) D (DH gs x [⟨x, f, h⟩]) := by
 obtain ⟨kvs, e, hl⟩ := d.len
 have hp : Se H D (.int x) (.ref a) (upd H D (.dK (Cz kvs (.inl x) (.ref a)))) := .inl ⟨kvs, .inl x, e, rfl, by rw [PySem.sizeLine_eq]; have := s.len; lia, rfl⟩
 exact ⟨kvs, _, e, hp, A3.put s d ea hp⟩
end TG
namespace L2
open PySem PySem.Spec PyProof.Rows
theorem vals3 {x y z : V} {us : List Value} (r : As [x, y, z] us) : ∃ u v w', us = [u, v, w'] ∧ RelV x u ∧ RelV y v ∧ RelV z w' := by
 cases r with
 | cons r1 r2 =>
  cases r2 with
  | cons r3 r4 =>
   cases r4 with
   | cons r5 r6 => cases r6; exact ⟨_, _, _, rfl, r1, r3, r5⟩
section
variable {X : Cx}
noncomputable def J1 : List V → Hp → VK → Prop := fun xs H Q => ∃ i j k, xs = [.int i, .int j, .int k] ∧ ∀ m, (∀ b, m ≤ b ↔ i ≤ b ∧ j ≤ b ∧ k ≤ b) → Q (.int m) H
theorem VW (hc : X.calm = true) : B1 X (.builtin "max") J1 := by
 intro pins s σ H xs us Q I r h
 obtain ⟨i, j, k, rfl, q⟩ := h
 obtain ⟨u, v, w', rfl, ⟨t, rfl⟩, ⟨t', rfl⟩, ⟨t'', rfl⟩⟩ := vals3 r
 refine max_three_ints (I.ok.hd hc) fun h' tk kp => ?_
 by_cases h1 : j > i
 ·rw [if_pos h1]
  by_cases h2 : k > j
  ·rw [if_pos h2]; exact ⟨.int k, H, I.kept kp, ⟨_, rfl⟩, q k fun b => by lia⟩
  ·rw [if_neg h2]; exact ⟨.int j, H, I.kept kp, ⟨_, rfl⟩, q j fun b => by lia⟩
 ·rw [if_neg h1]
  by_cases h2 : k > i
  ·rw [if_pos h2]; exact ⟨.int k, H, I.kept kp, ⟨_, rfl⟩, q k fun b => by lia⟩
  ·rw [if_neg h2]; exact ⟨.int i, H, I.kept kp, ⟨_, rfl⟩, q i fun b => by lia⟩
end
end L2
namespace TG
open PySem L2
noncomputable def Va : Err → Str
 | .nogate => "no gate" | .taken => "taken" | .upside => "upside down" | .bounds => "out of bounds" | .full => "beach full" | .deeds => "deeds full" | .nothing => "nothing back"
 | .badlist => "bad list" | .few => "too few" | .size => "wrong size" | .badthrow => "bad throw" | .badrow => "bad row"
noncomputable def Wl : Option Err → Str
 | none => ""
 | some e => Va e
inductive Wrd (w : Str) : Prop where
 | put (h : w = "put") | take (h : w = "take") | lift (h : w = "lift") | sink (h : w = "sink") | back (h : w = "back")
noncomputable def Bl (w : Str) (gs : List G) (past : List (List G)) (p x y : Int) : Option Err :=
 if w = "back" then Lu past p else if w = "put" then Kc gs past p x y else if w = "take" then Gk gs past p else if w = "lift" then Db gs past p x y else Db gs past p (-x) (-y)
noncomputable def BS (w : Str) (gs : List G) (p x y : Int) : Int × Int :=
 if w = "put" then (x, y) else
  if w = "lift" then (((A0 gs p).elim 0 G.f) + x, ((A0 gs p).elim 0 G.h) + y) else
  if w = "sink" then (((A0 gs p).elim 0 G.f) - x, ((A0 gs p).elim 0 G.h) - y) else ((A0 gs p).elim 0 G.f, (A0 gs p).elim 0 G.h)
noncomputable def Eb (w : Str) (gs : List G) (past : List (List G)) (p x y : Int) : List G :=
 if w = "back" then past.getD (past.length - p.toNat) [] else if w = "take" then DH gs p [] else DH gs p [⟨p, (BS w gs p x y).1, (BS w gs p x y).2⟩]
noncomputable def Le (w : Str) (gs : List G) (past : List (List G)) (p : Int) : List (List G) := if w = "back" then past.take (past.length - p.toNat) else past ++ [gs]
noncomputable def aft (w : Str) (gs : List G) (past : List (List G)) (p x y : Int) : List G × List (List G) := match Bl w gs past p x y with
 | some _ => (gs, past)
 | none => (Eb w gs past p x y, Le w gs past p)
noncomputable def KJ : Err → Bool
 | .nogate => true | .taken => true | .upside => true | .bounds => true | .full => true | .deeds => true | .nothing => true | _ => false
theorem Sa {p f h : Int} {e : Err} (he : Df p f h = some e) : KJ e = true := by
 unfold Df at he
 split at he
 ·cases he; rfl
 ·split at he
  ·cases he
  ·cases he; rfl
theorem Pr {past : List (List G)} {e : Err} (he : DO past = some e) : KJ e = true := by
 unfold DO at he
 split at he
 ·cases he; rfl
 ·cases he
theorem W0 {gs : List G} {past : List (List G)} {p f h : Int} {e : Err} (he : Kc gs past p f h = some e) : KJ e = true := by
 unfold Kc at he
 split at he
 ·cases he; rfl
 ·cases hg : Df p f h with
  | some e' => rw [hg] at he; cases he; exact Sa hg
  | none =>
   rw [hg] at he
   have he : (if 40 ≤ gs.length then some Err.full else if 300 ≤ past.length then some Err.deeds else none) = some e := he
   split at he
   ·cases he; rfl
   ·split at he
    ·cases he; rfl
    ·cases he
theorem Wb {gs : List G} {past : List (List G)} {p : Int} {e : Err} (he : Gk gs past p = some e) : KJ e = true := by
 unfold Gk at he
 split at he
 ·exact Pr he
 ·cases he; rfl
theorem Ri {gs : List G} {past : List (List G)} {p x y : Int} {e : Err} (he : Db gs past p x y = some e) : KJ e = true := by
 unfold Db at he
 split at he
 ·cases he; rfl
 ·rename_i g _
  cases hg : Df p (g.f + x) (g.h + y) with
  | some e' => rw [hg] at he; cases he; exact Sa hg
  | none => rw [hg] at he; exact Pr he
theorem Vq {past : List (List G)} {n : Int} {e : Err} (he : Lu past n = some e) : KJ e = true := by
 unfold Lu at he
 split at he
 ·cases he; rfl
 ·split at he
  ·cases he; rfl
  ·cases he
theorem XV {e : Err} : Va e ≠ "" := by cases e <;> decide
structure Wd (C : Addr) (H : Hp) (b S P : Addr) (ow : List Addr) (gs : List G) (past : List (List G)) (D L : Addr) : Prop where
 bch : Bch C H b S P ow gs past
 dk : A3 H D gs
 pl : ∃ ds : List Addr, H L = some (.lst (ds.map V.ref)) ∧ Paired (A3 H) ds past ∧ D ∉ ds
 po : L ∉ ow
theorem Wd.same {C : Addr} {H H' : Hp} {b S P : Addr} {ow : List Addr} {gs : List G} {past : List (List G)} {D L : Addr} (h : Wd C H b S P ow gs past D L) (s : AI H H') : Wd C H' b S P ow gs past D L := by
 obtain ⟨ds, e, pr, n⟩ := h.pl
 exact ⟨h.bch.same s, h.dk.same s, ⟨ds, s.get e, Paired.mapP pr fun _ _ q => q.same s, n⟩, h.po⟩
theorem Wd.deed {C : Addr} {H H' : Hp} {b S P S' P' : Addr} {ow ow' : List Addr} {gs gs' : List G} {past past' : List (List G)} {D L : Addr} (h : Wd C H b S P ow gs past D L) (k : Kp b P H H') (hb' : Bch C H' b S' P' ow' gs' past') (o : ∀ a ∈ ow', a ∈ ow ∨ H a = none) :
  A3 H' D gs ∧ (∃ ds : List Addr, H' L = some (.lst (ds.map V.ref)) ∧ Paired (A3 H') ds past ∧ D ∉ ds) ∧ L ∉ ow' := by
 obtain ⟨ds, e, pr, n⟩ := h.pl
 exact ⟨h.dk.kp h.bch k, ⟨ds, h.bch.lst k e h.po, Paired.mapP pr fun _ _ q => q.kp h.bch k, n⟩, Tv o e h.po⟩
theorem Wd.plen {C : Addr} {H : Hp} {b S P : Addr} {ow : List Addr} {gs : List G} {past : List (List G)} {D L : Addr} (h : Wd C H b S P ow gs past D L) : ∃ xs, H L = some (.lst xs) ∧ xs.length = past.length := by
 obtain ⟨ds, e, pr, n⟩ := h.pl
 exact ⟨_, e, by rw [List.length_map, Paired.length pr]⟩
theorem Kept.cons {ow ow' : List Addr} {H H' : Hp} (k : Kept ow H H' ow') {L : Addr} : Kept (L :: ow) H H' (L :: ow') :=
 ⟨k.tup, fun c xs n e => k.lst c xs (fun z => n (List.mem_cons_of_mem _ z)) e, k.frz, fun c hc => by
  rcases List.mem_cons.mp hc with z | z
  ·exact .inl (by rw [z]; exact List.mem_cons_self)
  ·exact (k.off c z).imp (List.mem_cons_of_mem _) id, k.live, k.tbl⟩
theorem S5 {w : Str} {gs : List G} {past : List (List G)} {p x y : Int} (wd : Wrd w) (nb : w ≠ "back") (h1 : w = "put" → p ∉ AU gs) (h2 : w ≠ "put" → p ∈ AU gs) (sd : Std gs) :
  Bl w gs past p x y = (Df p (BS w gs p x y).1 (BS w gs p x y).2).or (if w = "put" ∧ 40 ≤ gs.length then some .full else DO past) := by
 unfold Bl
 rw [if_neg nb]
 rcases wd with e | e | e | e | e
 ·subst e
  rw [if_pos rfl]
  unfold Kc BS DO
  rw [if_neg (h1 rfl), if_pos rfl]
  by_cases h4 : 40 ≤ gs.length
  ·rw [if_pos h4, if_pos ⟨rfl, h4⟩]
  ·rw [if_neg h4, if_neg (show ¬ (("put" : Str) = "put" ∧ 40 ≤ gs.length) from fun z => h4 z.2)]
 all_goals first | exact absurd e nb | skip
 all_goals
  have np : w ≠ "put" := by rw [e]; decide
  have hp := h2 np
  obtain ⟨g, hg, hgp⟩ := List.mem_map.mp hp
  have gof : A0 gs p = some g := hgp ▸ Mt sd.asc hg
  rw [if_neg np, if_neg (show ¬ (w = "put" ∧ 40 ≤ gs.length) from fun z => np z.1)]
  unfold BS
  rw [if_neg np, gof]
 ·rw [if_pos e, if_neg (by rw [e]; decide), if_neg (by rw [e]; decide)]
  unfold Gk
  rw [if_pos hp]
  have : Df p g.f g.h = none := hgp ▸ Fz.mpr (sd.ok g hg)
  show _ = (Df p g.f g.h).or _
  rw [this]
  rfl
 ·rw [if_neg (by rw [e]; decide), if_pos e, if_pos e]
  unfold Db
  rw [gof]
  rfl
 ·rw [if_neg (by rw [e]; decide), if_neg (by rw [e]; decide), if_neg (by rw [e]; decide), if_pos e]
  unfold Db
  rw [gof]
  rfl
theorem VP {w : Str} {gs : List G} {past : List (List G)} {p x y : Int} (wd : Wrd w) (nb : w ≠ "back") : (w = "put" → p ∈ AU gs → Bl w gs past p x y = some .taken) ∧ (w ≠ "put" → p ∉ AU gs → Bl w gs past p x y = some .nogate) := by
 constructor
 ·intro e hp
  unfold Bl Kc
  rw [if_neg nb, if_pos e, if_pos hp]
 ·intro np hp
  unfold Bl
  rw [if_neg nb, if_neg np]
  unfold Gk Db
  rw [CT.mpr hp, if_neg hp]
  split
  ·rfl
  ·split <;> rfl
theorem Rq {H : Hp} {D : Addr} {gs : List G} {x : Int} {o : Option V} (hn : A0 gs x = none → o = none) (hs : ∀ g, A0 gs x = some g → ∃ a, o = some (.ref a) ∧ H a = some (.tup [.int g.f, .int g.h])) : o.isSome = decide (x ∈ AU gs) := by
 cases hg : A0 gs x with
 | none => rw [hn hg, decide_eq_false (CT.mp hg)]; rfl
 | some g =>
  obtain ⟨a, rfl, _⟩ := hs g hg
  obtain ⟨h1, h2⟩ := Bk hg
  rw [decide_eq_true (List.mem_map.mpr ⟨g, h1, h2⟩)]
  rfl
open PySem.W PySem.Calls
noncomputable def Ks (tb : String → Option Builtin) (p : Program) (w : World) (n₀ : Nat) (ann : Option Value) : Nat → SharedT → Thread → Option SharedT
 | 0, _, _ => none
 | n + 1, s, t => match through t with
  | true => some s
  | false => match stepOk n₀ ann t with
   | false => none
   | true => match stepT (denote tb) p w s t with
    | some (s', t') => Ks tb p w n₀ ann n s' t'
    | none => none
theorem On {tb : String → Option Builtin} {p : Program} {w : World} {n₀ : Nat} {ann : Option Value} : ∀ {n : Nat} {s s' : SharedT} {t : Thread}, Ks tb p w n₀ ann n s t = some s' → topRun tb p w n₀ ann n s.abs t = some s'.abs
 | 0, _, _, _, h => by cases h
 | n + 1, s, s', t, h => by
  unfold Ks at h
  unfold topRun
  cases he : through t with
  | true => rw [he] at h; cases h; rfl
  | false =>
   rw [he] at h
   cases hk : stepOk n₀ ann t with
   | false => rw [hk] at h; cases h
   | true =>
    rw [hk] at h
    cases hs : stepT (denote tb) p w s t with
    | none => rw [hs] at h; cases h
    | some r => obtain ⟨s₂, t₂⟩ := r; rw [hs] at h; rw [stepT_spec hs]; exact On h
noncomputable def Kof (as : List Addr) (h : Heap) : Frag := as.filterMap fun a => (h.get? a).map fun o => (a, o)
theorem aS (as : List Addr) (h : Heap) : (Kof as h).In h := by
 intro a o e
 induction as with
 | nil => cases e
 | cons b r ih =>
  simp only [Kof, List.filterMap_cons] at e
  cases hb : h.get? b with
  | none => rw [hb] at e; exact ih e
  | some ob =>
   rw [hb] at e
   simp only [Option.map_some, List.lookup] at e
   split at e
   ·rename_i q; cases e; rw [beq_iff_eq.mp q]; exact hb
   ·exact ih e
noncomputable def Th (t : BT) (n a : Nat) : Option Obj := match Nat.blt a n with
 | true => alive ((t.get a).getD default)
 | false => none
noncomputable def Uw (as : List Addr) (s : SharedT) : Frag := as.filterMap fun a => (Th s.tree s.n a).map fun o => (a, o)
theorem UL (t : BT) (n : Nat) (life : Life) (a : Nat) : (absHeap t n life).get? a = Th t n a := by
 unfold Th
 cases h : Nat.blt a n with
 | true =>
  have h' : a < n := by simpa [Nat.blt_eq] using h
  show _ = alive ((t.get a).getD default)
  unfold Heap.get?
  rw [absHeap_at, if_pos h']
  generalize (t.get a).getD default = o
  obtain ⟨c, d, dt, sl⟩ := o
  cases dt <;> rfl
 | false =>
  have h' : ¬ a < n := by intro q; rw [Nat.blt_eq.mpr q] at h; cases h
  exact abs_get_none h'
theorem W7 (as : List Addr) (s : SharedT) : Kof as s.abs.heap = Uw as s := by
 unfold Kof Uw
 congr 1
 funext a
 show ((absHeap s.tree s.n s.life).get? a).map _ = _
 rw [UL]
noncomputable def Vv : Nat → BT → List Obj → BT
 | _, t, [] => t
 | i, t, o :: r => Vv (i + 1) (t.ins i o) r
noncomputable def Vc (P : Params) (os : OsState) : SharedT := ⟨Vv 0 .nil (boot_heap P).objs.toList, 11, {}, #[], boot_drawn, boot_toks, os⟩
theorem VX (P : Params) (os : OsState) : (Vc P os).abs = ⟨boot_heap P, #[], boot_drawn, boot_toks, os⟩ := by kernel_rfl
theorem U7 (P : Params) : ((boot_heap P).isNs mainGlobals && (#[] : Array GenState).size == 0, (boot_heap P).objs.size, (boot_heap P).nsMap mainGlobals "__annotations__") = (true, 11, some (.ref 6)) := by kernel_rfl
noncomputable def WL {β : Type} (p q : Program) (loose : List Str) (obs : SharedT → β) (P : Params) (s : SharedT) :=
 ((staticsOk (importedModules p.main.body) (boot_heap P) s.abs.heap && namesBound p s.abs.heap && gensDone s.abs && laidKept (boot_heap P) s.abs.heap), openSeen q loose (importedModules p.main.body) (fun _ => true) true s.abs, obs s)
noncomputable def MI {β : Type} (p q : Program) (loose : List Str) (obs : SharedT → β) (M : Nat) (w : World) (os : OsState) :=
 (Ks treeTable p w 11 (some (.ref 6)) M (Vc w.params os) (topStub p)).map (WL p q loose obs w.params)
noncomputable def Vl {β : Type} (p : Program) (obs : SharedT → β) (M : Nat) (w : World) (os : OsState) :=
 (Ks treeTable p w 11 (some (.ref 6)) M (Vc w.params os) (topStub p)).map obs
theorem TJ {β : Type} {p q : Program} {loose : List Str} {B : SharedT → β} {M : Nat} {w : World} {os : OsState} {v : β} (e1 : MI p q loose (fun _ => ()) M w os = some (true, openGood q loose, ())) (e2 : Vl p B M w os = some v) : MI p q loose B M w os = some (true, openGood q loose, v) := by
 obtain ⟨s, r, l⟩ := Option.map_eq_some_iff.mp e1
 obtain ⟨s', r', l'⟩ := Option.map_eq_some_iff.mp e2
 obtain rfl : s = s' := Option.some.inj (r.symm.trans r')
 obtain ⟨l1, l2, -⟩ : _ ∧ _ ∧ _ := by simpa only [WL, Prod.mk.injEq] using l
 unfold MI
 rw [r]
 exact congrArg some (Prod.ext l1 (Prod.ext l2 l'))
theorem Xo {p q : Program} {loose : List Str} {β : Type} {Yf : Shared → β} {obs : SharedT → β} {v : β} {N M : Nat}
  (e : opening p = plainProg p.main.scope.names) (hN : Nat.ble 600 N = true) (f : ∀ s, fenceModules? p s = some s) (le : Nat.ble M N = true) (hY : ∀ s : SharedT, Yf s.abs = obs s)
  (run : ∀ (w : World) (os : OsState), MI p q loose obs M w os = some (true, openGood q loose, v)) : LeftO p q loose (fun _ => true) Yf (fun _ => v) N := fun w => by
 have open_ := boot_open e hN f w
 obtain ⟨⟨h, gs, d, k, os⟩, e1, e2⟩ := Option.map_eq_some_iff.mp open_
 obtain ⟨rfl, rfl, rfl, rfl⟩ : h = boot_heap w.params ∧ gs = #[] ∧ d = boot_drawn ∧ k = boot_toks := by simpa using e2
 obtain ⟨z1, z2, z3⟩ : _ ∧ _ ∧ _ := by simpa only [Prod.mk.injEq] using U7 w.params
 obtain ⟨sT, r0, l0⟩ := Option.map_eq_some_iff.mp (run w os)
 obtain ⟨l1, l2, l3⟩ : _ ∧ _ ∧ _ := by simpa only [WL, Prod.mk.injEq] using l0
 have r1 := On r0
 rw [VX] at r1
 have r := topRun_mono (N - M) _ _ _ _ r1
 rw [show M + (N - M) = N by have := Nat.le_of_ble_eq_true le; lia] at r
 have t : topFrom treeTable p w N ⟨boot_heap w.params, #[], boot_drawn, boot_toks, os⟩ = some sT.abs := by
  unfold topFrom
  dsimp only
  rw [z1, z2, z3, r]
  show (match staticsOk (importedModules p.main.body) (boot_heap w.params) sT.abs.heap && namesBound p sT.abs.heap && gensDone sT.abs && laidKept (boot_heap w.params) sT.abs.heap with | true => _ | false => _) = _
  rw [l1]
 unfold openEnds
 rw [e1]
 show (topFrom treeTable p w N _).map _ = _
 rw [t]
 exact congrArg some (Prod.ext l2 ((hY sT).trans l3))
noncomputable abbrev Seen := Option (Str × Str × Arguments × List Stmt × Scope × Addr × List (Str × Addr) × Addr × Bool × List Int)
noncomputable def SY : List Value → Option (List Int)
 | [] => some []
 | .int i _ :: r => (SY r).map (i :: ·)
 | _ => none
noncomputable def dfl (K : Frag) : Value → Option (List Int)
 | .none => some []
 | .ref d => match K.lookup d with
  | some ⟨_, _, .seq vs _, _⟩ => match SY vs.toList with
   | some (i :: r) => some (i :: r)
   | _ => none
  | _ => none
 | _ => none
noncomputable def WD (K : Frag) (f : Addr) (qual : Str) : Seen := match K.lookup f with
 | some ⟨_, _, .func ⟨nm, q, ps, .stmts b, sc, g, cl, dV, _, _, _, _, cd, _, bi⟩, _⟩ => match dfl K dV with
  | some ds => some (nm, q, ps, b, sc, g, cl, bi, codeIn K cd qual && keepIn K (.ref f), ds)
  | none => none
 | _ => none
noncomputable def A9 (K : Frag) (x : Str) : Seen := match nsIn K mainGlobals x with
 | some (some (.ref f)) => WD K f x
 | _ => none
noncomputable def DJ (K : Frag) (c x qual : Str) : Seen := match nsIn K mainGlobals c with
 | some (some (.ref C)) => match findIn K (.ref C) x with
  | some (some (.ref f)) => match isFn K (.ref f) with
   | true => WD K f qual
   | false => none
  | _ => none
 | _ => none
noncomputable def Ar (x qual : Str) (st : Stmt) (ds : List Int) : Seen := some (x, qual, Bz st, BR st, AG st, mainGlobals, [], builtinsNs, true, ds)
noncomputable def aL (K : Frag) (c : Str) (fs : List Str) : Bool := match nsIn K mainGlobals c with
 | some (some (.ref C)) => plainGet K C Str.empty && hasDictIn K C && plainOver K C && findIn K (.ref C) "__setattr__" == some (some (.builtin "object.__setattr__")) && makesIn K C && keepIn K (.ref C) && fs.all fun f => findIn K (.ref C) f == some none
 | _ => false
noncomputable def Ku (K : Frag) (c : Str) : Bool := match nsIn K mainGlobals c with
 | some (some (.ref C)) => excIn K C bmV "ValueError.__new__"
 | _ => false
noncomputable def Au (K : Frag) (a b : Str) : Option Bool := match nsIn K mainGlobals a, nsIn K mainGlobals b with
 | some (some (.ref A)), some (some (.ref B)) => exmOne K (.ref A) (.ref B)
 | _, _ => none
noncomputable def Rc (K : Frag) (x : Str) : Option Int := match nsIn K mainGlobals x with
 | some (some (.int i _)) => some i
 | _ => none
noncomputable def HK (K : Frag) (x : Str) : Bool := match nsIn K mainGlobals x with
 | some none => true
 | _ => false
section
variable {K : Frag}
theorem Rs {v : Value} (e : dfl K v = some []) : v = .none := by
 unfold dfl at e
 split at e
 ·rfl
 ·repeat' split at e
  all_goals cases e
 ·cases e
theorem QF : ∀ {vs : List Value} {is : List Int}, SY vs = some is → ∃ ts : List Tok, ts.length = is.length ∧ vs = is.zipWith Value.int ts
 | [], is, e => by cases e; exact ⟨[], rfl, rfl⟩
 | v :: r, is, e => by
  unfold SY at e
  split at e
  ·cases e; rename_i h; cases h
  ·rename_i i t r' h
   cases h
   cases h2 : SY r with
   | none => rw [h2] at e; cases e
   | some js =>
    rw [h2] at e
    cases e
    obtain ⟨ts, hl, rfl⟩ := QF h2
    exact ⟨t :: ts, by simp [hl], rfl⟩
  ·cases e
theorem WQ {v : Value} {i : Int} {r : List Int} (e : dfl K v = some (i :: r)) : ∃ d cl di n sl ts, v = .ref d ∧ ts.length = (i :: r).length ∧ K.lookup d = some ⟨cl, di, .seq ((i :: r).zipWith Value.int ts).toArray n, sl⟩ := by
 unfold dfl at e
 split at e
 ·cases e
 ·rename_i d
  split at e
  ·rename_i cl di vs n sl hl
   split at e
   ·rename_i j r' h
    cases e
    obtain ⟨ts, h1, h2⟩ := QF h
    refine ⟨d, cl, di, n, sl, ts, rfl, h1, ?_⟩
    rw [hl, ← h2]
   ·cases e
  ·cases e
 ·cases e
theorem Q8 {f : Addr} {x qual : Str} {st : Stmt} {ds : List Int} (e : WD K f qual = Ar x qual st ds) : ∃ (oc : Value) (od : Option Addr) (sl : Array (Option Value)) (dV kV dc pm : Value) (an : Option Addr) (cd ct : Value),
  K.lookup f = some ⟨oc, od, .func (fnOf x qual (Bz st) (BR st) (AG st) dV kV dc pm an cd ct), sl⟩ ∧ codeIn K cd qual = true ∧ keepIn K (.ref f) = true ∧ dfl K dV = some ds := by
 unfold WD Ar at e
 split at e
 ·rename_i oc od nm q ps b sc g cl dV kV dc pm an cd ct bi sl hl
  split at e
  ·rename_i ds' hd
   simp only [Option.some.injEq, Prod.mk.injEq, Bool.and_eq_true] at e
   obtain ⟨rfl, rfl, rfl, rfl, rfl, rfl, rfl, rfl, ⟨h1, h2⟩, rfl⟩ := e
   exact ⟨oc, od, sl, dV, kV, dc, pm, an, cd, ct, hl, h1, h2, hd⟩
  ·cases e
 ·cases e
theorem T2 {x : Str} {st : Stmt} (e : A9 K x = Ar x x st []) : ∃ (f : Addr) (oc : Value) (od : Option Addr) (sl : Array (Option Value)) (kV dc pm : Value) (an : Option Addr) (cd ct : Value),
  nsIn K mainGlobals x = some (some (.ref f)) ∧ K.lookup f = some ⟨oc, od, .func (fnOf x x (Bz st) (BR st) (AG st) .none kV dc pm an cd ct), sl⟩ ∧ codeIn K cd x = true ∧ keepIn K (.ref f) = true := by
 unfold A9 at e
 split at e
 ·rename_i f hf
  obtain ⟨oc, od, sl, dV, kV, dc, pm, an, cd, ct, h1, h2, h3, h4⟩ := Q8 e
  cases Rs h4
  exact ⟨f, oc, od, sl, kV, dc, pm, an, cd, ct, hf, h1, h2, h3⟩
 ·cases e
theorem Xz {C : Addr} {c x qual : Str} {st : Stmt} {ds : List Int} (hc : nsIn K mainGlobals c = some (some (.ref C))) (e : DJ K c x qual = Ar x qual st ds) : ∃ f : Addr, findIn K (.ref C) x = some (some (.ref f)) ∧ isFn K (.ref f) = true ∧ WD K f qual = Ar x qual st ds := by
 unfold DJ at e
 rw [hc] at e
 dsimp only at e
 split at e
 ·rename_i f hf
  split at e
  ·rename_i h
   exact ⟨f, hf, h, e⟩
  ·cases e
 ·cases e
theorem XC {C : Addr} {c x qual : Str} {st : Stmt} (hc : nsIn K mainGlobals c = some (some (.ref C))) (e : DJ K c x qual = Ar x qual st []) : ∃ (f : Addr) (oc : Value) (od : Option Addr) (sl : Array (Option Value)) (kV dc pm : Value) (an : Option Addr) (cd ct : Value),
  findIn K (.ref C) x = some (some (.ref f)) ∧ isFn K (.ref f) = true ∧ K.lookup f = some ⟨oc, od, .func (fnOf x qual (Bz st) (BR st) (AG st) .none kV dc pm an cd ct), sl⟩ ∧ codeIn K cd qual = true ∧ keepIn K (.ref f) = true := by
 obtain ⟨f, hf, hi, e⟩ := Xz hc e
 obtain ⟨oc, od, sl, dV, kV, dc, pm, an, cd, ct, h1, h2, h3, h4⟩ := Q8 e
 cases Rs h4
 exact ⟨f, oc, od, sl, kV, dc, pm, an, cd, ct, hf, hi, h1, h2, h3⟩
theorem WS {C : Addr} {c x qual : Str} {st : Stmt} {i : Int} (hc : nsIn K mainGlobals c = some (some (.ref C))) (e : DJ K c x qual = Ar x qual st [i]) : ∃ (f : Addr) (oc : Value) (od : Option Addr) (sl : Array (Option Value)) (d : Addr) (kV dc pm : Value) (an : Option Addr) (cd ct : Value) (dcl : Value) (ddi : Option Addr) (dn : Nat) (dsl : Array (Option Value)) (tk : Tok),
  findIn K (.ref C) x = some (some (.ref f)) ∧ isFn K (.ref f) = true ∧ K.lookup f = some ⟨oc, od, .func (fnOf x qual (Bz st) (BR st) (AG st) (.ref d) kV dc pm an cd ct), sl⟩ ∧ codeIn K cd qual = true ∧ keepIn K (.ref f) = true ∧ K.lookup d = some ⟨dcl, ddi, .seq #[.int i tk] dn, dsl⟩ := by
 obtain ⟨f, hf, hi, e⟩ := Xz hc e
 obtain ⟨oc, od, sl, dV, kV, dc, pm, an, cd, ct, h1, h2, h3, h4⟩ := Q8 e
 obtain ⟨d, cl, di, n, sl', ts, rfl, hl, h5⟩ := WQ h4
 match ts, hl with
 | [t], _ => exact ⟨f, oc, od, sl, d, kV, dc, pm, an, cd, ct, cl, di, n, sl', t, hf, hi, h1, h2, h3, h5⟩
theorem W2 {c : Str} {fs : List Str} (e : aL K c fs = true) : ∃ C : Addr, nsIn K mainGlobals c = some (some (.ref C)) ∧ plainGet K C Str.empty = true ∧ hasDictIn K C = true ∧ plainOver K C = true ∧
  findIn K (.ref C) "__setattr__" = some (some (.builtin "object.__setattr__")) ∧ makesIn K C = true ∧ keepIn K (.ref C) = true ∧ ∀ f ∈ fs, findIn K (.ref C) f = some none := by
 unfold aL at e
 split at e
 ·rename_i C hC
  simp only [Bool.and_eq_true, beq_iff_eq, List.all_eq_true] at e
  obtain ⟨⟨⟨⟨⟨⟨h1, h2⟩, h3⟩, h4⟩, h5⟩, h6⟩, h7⟩ := e
  exact ⟨C, hC, h1, h2, h3, h4, h5, h6, h7⟩
 ·cases e
theorem CL {c : Str} (e : Ku K c = true) : ∃ C : Addr, nsIn K mainGlobals c = some (some (.ref C)) ∧ excIn K C [.type "ValueError", .type "Exception", .type "BaseException", .type "object"] "ValueError.__new__" = true := by
 unfold Ku at e
 split at e
 ·rename_i C hC
  exact ⟨C, hC, e⟩
 ·cases e
theorem AR {a b : Str} {A B : Addr} {r : Bool} (ha : nsIn K mainGlobals a = some (some (.ref A))) (hb : nsIn K mainGlobals b = some (some (.ref B))) (e : Au K a b = some r) : exmOne K (.ref A) (.ref B) = some r := by
 unfold Au at e
 rw [ha, hb] at e
 exact e
theorem IY {x : Str} {i : Int} (e : Rc K x = some i) : ∃ t : Tok, nsIn K mainGlobals x = some (some (.int i t)) := by
 unfold Rc at e
 split at e
 ·rename_i j t h
  cases e
  exact ⟨t, h⟩
 ·cases e
theorem Bo {x : Str} (e : HK K x = true) : nsIn K mainGlobals x = some none := by
 unfold HK at e
 split at e
 ·assumption
 ·cases e
end
theorem Z6 {R : WRecords} {h : Heap} (e : R = []) : RecFacts R h := by
 subst e
 exact ⟨fun x hx => (nomatch hx), fun x hx => (nomatch hx), fun c c' a (hc : false = true) => (nomatch hc), fun c fs (hf : none = some fs) => (nomatch hf)⟩
theorem W8 {c A B : Prop} [Decidable c] {H : Hp} {D : Addr} {k : V} {o : Option V} (gt : G1 H D k o) (hA : c → o.isSome = true → A) (hB : (c → o.isSome = false) → B) :
  if decide c = true then (∃ x, G1 H D k x ∧ if x.isSome = true then A else B) else B := by
 by_cases hc : c
 ·rw [if_pos (decide_eq_true hc)]
  refine ⟨o, gt, ?_⟩
  cases ho : o.isSome with
  | true => rw [if_pos rfl]; exact hA hc ho
  | false => rw [if_neg Bool.false_ne_true]; exact hB fun _ => ho
 ·rw [if_neg (fun z => hc (of_decide_eq_true z))]
  exact hB fun z => absurd z hc
end TG
namespace L2
open PySem
theorem Vb {K : PySem.W.Frag} {tb : (Value → St → Hp → Prop) → TS} {ths : List (Value × TS)} {D : Ip} {σ : St} {H : Hp} (h : ∀ N : Value → St → Hp → Prop, (∀ cls σ' H', tHs K ths cls D σ' H' → N cls σ' H') → tb N D σ H) : tTry K tb ths D σ H := h _ fun _ _ _ z => z
end L2
namespace TG
open PySem L2
theorem Kp.free {b P : Addr} {H H' : Hp} (k : Kp b P H H') (hb : ∃ u, H' b = some u) (hP : ∃ u, H' P = some u) {D : Addr} (n : H' D = none) : H D = none := by
 cases q : H D with
 | none => rfl
 | some u =>
  by_cases h1 : D = b
  ·obtain ⟨_, e⟩ := hb
   rw [← h1, n] at e; cases e
  ·by_cases h2 : D = P
   ·obtain ⟨_, e⟩ := hP
    rw [← h2, n] at e; cases e
   ·rw [k D u h1 h2 q] at n; cases n
theorem Bch.live {C : Addr} {H : Hp} {b S P : Addr} {ow : List Addr} {gs : List G} {past : List (List G)} (h : Bch C H b S P ow gs past) : (∃ u, H b = some u) ∧ ∃ u, H P = some u := by
 obtain ⟨_, e⟩ := h.at_
 obtain ⟨_, e2, _⟩ := h.pa
 exact ⟨⟨_, e⟩, ⟨_, e2⟩⟩
theorem Fa {w : Str} {gs : List G} {past : List (List G)} {p : Int} (nb : w ≠ "back") : Le w gs past p = past ++ [gs] := if_neg nb
theorem FL {w : Str} {gs : List G} {past : List (List G)} {p x y : Int} (nb : w ≠ "back") (nt : w ≠ "take") : Eb w gs past p x y = DH gs p [⟨p, (BS w gs p x y).1, (BS w gs p x y).2⟩] := by
 unfold Eb
 rw [if_neg nb, if_neg nt]
theorem OK {w : Str} {gs : List G} {past : List (List G)} {p x y : Int} (e : w = "take") : Eb w gs past p x y = DH gs p [] := by
 unfold Eb
 rw [if_neg (by rw [e]; decide), if_pos e]
theorem MD {w : Str} {gs : List G} {p x y : Int} (e : w = "put") : BS w gs p x y = (x, y) := if_pos e
theorem OT {w : Str} {gs : List G} {p x y : Int} {g : G} (e : w = "lift") (hg : A0 gs p = some g) : BS w gs p x y = (g.f + x, g.h + y) := by
 unfold BS
 rw [if_neg (by rw [e]; decide), if_pos e, hg]
 rfl
theorem Nl {w : Str} {gs : List G} {p x y : Int} {g : G} (e : w = "sink") (hg : A0 gs p = some g) : BS w gs p x y = (g.f + -x, g.h + -y) := by
 unfold BS
 rw [if_neg (by rw [e]; decide), if_neg (by rw [e]; decide), if_pos e, hg]
 show (g.f - x, g.h - y) = _
 rw [Int.sub_eq_add_neg, Int.sub_eq_add_neg]
theorem S4 {w : Str} {gs : List G} {p x y : Int} {g : G} (e : w = "take") (hg : A0 gs p = some g) : BS w gs p x y = (g.f, g.h) := by
 unfold BS
 rw [if_neg (by rw [e]; decide), if_neg (by rw [e]; decide), if_neg (by rw [e]; decide), hg]
 rfl
theorem MB {w : Str} {gs : List G} {past : List (List G)} {p x y : Int} (e : w = "put") : Bl w gs past p x y = Kc gs past p x y := by
 unfold Bl
 rw [if_neg (by rw [e]; decide), if_pos e]
theorem KM {w : Str} {gs : List G} {past : List (List G)} {p x y : Int} (e : w = "take") : Bl w gs past p x y = Gk gs past p := by
 unfold Bl
 rw [if_neg (by rw [e]; decide), if_neg (by rw [e]; decide), if_pos e]
theorem Ol {w : Str} {gs : List G} {past : List (List G)} {p x y : Int} (e : w = "lift") : Bl w gs past p x y = Db gs past p x y := by
 unfold Bl
 rw [if_neg (by rw [e]; decide), if_neg (by rw [e]; decide), if_neg (by rw [e]; decide), if_pos e]
theorem Ob {w : Str} {gs : List G} {past : List (List G)} {p x y : Int} (e : w = "sink") : Bl w gs past p x y = Db gs past p (-x) (-y) := by
 unfold Bl
 rw [if_neg (by rw [e]; decide), if_neg (by rw [e]; decide), if_neg (by rw [e]; decide), if_neg (by rw [e]; decide)]
theorem J7 {w : Str} {gs : List G} {past : List (List G)} {p x y : Int} (e : w = "back") : Bl w gs past p x y = Lu past p := if_pos e
theorem Wrd.last {w : Str} (h : Wrd w) (h1 : w ≠ "put") (h2 : w ≠ "take") (h3 : w ≠ "lift") (h4 : w ≠ "sink") : w = "back" := by
 rcases h with e | e | e | e | e
 ·exact absurd e h1
 ·exact absurd e h2
 ·exact absurd e h3
 ·exact absurd e h4
 ·exact e
noncomputable def DL (D L : Addr) (H H' : Hp) : Prop := ∀ a u, a ≠ D → a ≠ L → H a = some u → H' a = some u
theorem DL.of {D L : Addr} {H H' : Hp} (s : AI H H') : DL D L H H' := fun _ _ _ _ e => s _ _ e
theorem DL.trans {D L : Addr} {H H1 H2 : Hp} (a : DL D L H H1) (b : DL D L H1 H2) : DL D L H H2 := fun c u h1 h2 e => b c u h1 h2 (a c u h1 h2 e)
theorem DL.updD {D L : Addr} {H : Hp} {o : HO} : DL D L H (upd H D o) := fun _ _ h _ e => (AN h).trans e
theorem DL.updL {D L : Addr} {H : Hp} {o : HO} : DL D L H (upd H L o) := fun _ _ _ h e => (AN h).trans e
section
variable {C D L b S P : Addr} {ow : List Addr} {gs : List G} {past : List (List G)} {H H' : Hp} {kvs : List (Key × V)} {xs : List V}
theorem DL.tup (k : DL D L H H') (eD : H D = some (.dK kvs)) (eL : H L = some (.lst xs)) {a : Addr} {ys : List V} (e : H a = some (.tup ys)) : H' a = some (.tup ys) :=
 k a _ (Be e eD fun z => by cases z) (Be e eL fun z => by cases z) e
theorem DL.dk (k : DL D L H H') (eL : H L = some (.lst xs)) {a : Addr} {ys : List (Key × V)} (ha : a ≠ D) (e : H a = some (.dK ys)) : H' a = some (.dK ys) :=
 k a _ ha (Be e eL fun z => by cases z) e
theorem Bch.dl (hb : Bch C H b S P ow gs past) (eD : H D = some (.dK kvs)) (eL : H L = some (.lst xs)) (hL : L ∉ ow) (k : DL D L H H') : Bch C H' b S P ow gs past :=
 hb.keep fun a u h e => by
  rcases h with h | h | ⟨ys, h⟩
  ·obtain ⟨dx, eb⟩ := hb.at_
   subst h
   exact k a u (Be eb eD fun z => by cases z) (Be eb eL fun z => by cases z) e
  ·obtain ⟨zs, ea⟩ := hb.lv a h
   exact k a u (Be ea eD fun z => by cases z) (fun z => hL (z ▸ h)) e
  ·subst h
   exact k.tup eD eL e
theorem Kept.dl (eD : H D = some (.dK kvs)) (eL : H L = some (.lst xs)) (k : DL D L H H') (lD : ∃ u, H' D = some u) (lL : ∃ u, H' L = some u) : Kept (L :: ow) H H' (L :: ow) where
 tup := fun c ys e => k.tup eD eL e
 lst := fun c ys n e => k c _ (Be e eD fun z => by cases z) (fun z => n (by rw [z]; exact List.mem_cons_self)) e
 frz := fun c o u e => k c _ (Be e eD fun z => by cases z) (Be e eL fun z => by cases z) e
 off := fun _ h => .inl h
 live := fun c u e => by
  by_cases h1 : c = D
  ·rw [h1]; exact lD
  ·by_cases h2 : c = L
   ·rw [h2]; exact lL
   ·exact ⟨u, k c u h1 h2 e⟩
 tbl := fun c ps e => k c _ (Be e eD fun z => by cases z) (Be e eL fun z => by cases z) e
theorem A3.copy {d d' : Addr} (h : A3 H d gs) (e : H d = some (.dK kvs)) (e' : H' d' = some (.dK kvs)) (kt : ∀ a ys, H a = some (.tup ys) → H' a = some (.tup ys)) : A3 H' d' gs := by
 obtain ⟨kvs', ks, e1, e2, p, q⟩ := h.at_
 rw [e] at e1
 cases e1
 exact ⟨kvs, ks, e', e2, p, fun g hg => (q g hg).imp fun a z => ⟨z.1, kt _ _ z.2⟩⟩
theorem A3.dl {d : Addr} (h : A3 H d gs) (hd : d ≠ D) (eD : H D = some (.dK kvs)) (eL : H L = some (.lst xs)) (k : DL D L H H') : A3 H' d gs :=
 h.keep (fun _ e => k.dk eL hd e) fun _ _ e => k.tup eD eL e
theorem Paired.dl {ds : List Addr} (pr : Paired (A3 H) ds past) (hd : D ∉ ds) (eD : H D = some (.dK kvs)) (eL : H L = some (.lst xs)) (k : DL D L H H') : Paired (A3 H') ds past :=
 Paired.keepM pr fun x y hx q => q.dl (D := D) (fun z => hd (by rw [← z]; exact hx)) eD eL k
end
end TG
namespace L2
theorem Xw {K : PySem.W.Frag} {H : Hp} {p : PySem.Addr} {kvs : List (Key × V)} (e : H p = some (.dK kvs)) : tyV K "dict" (.ref p) H := .inr (.inr (.inl ⟨rfl, .inl ⟨_, e⟩⟩))
theorem tyV_l {K : PySem.W.Frag} {H : Hp} {p : PySem.Addr} {xs : List V} (e : H p = some (.lst xs)) : tyV K "list" (.ref p) H := .inl ⟨rfl, _, SqL.of e⟩
end L2
namespace TG
open PySem L2
theorem UW {w : Str} {gs : List G} {past : List (List G)} {p x y : Int} {e : Err} (h : Bl w gs past p x y = some e) : aft w gs past p x y = (gs, past) := by unfold aft; rw [h]
theorem Tb {w : Str} {gs : List G} {past : List (List G)} {p x y : Int} (h : Bl w gs past p x y = none) : aft w gs past p x y = (Eb w gs past p x y, Le w gs past p) := by unfold aft; rw [h]
theorem SH {K : PySem.W.Frag} {H H' : Hp} {a : Addr} {xs : List V} (h : SqT K H a xs) (k : ∀ ys, H a = some (.tup ys) → H' a = some (.tup ys)) (kf : ∀ o u, H a = some (.frz o u) → H' a = some (.frz o u)) : SqT K H' a xs := by
 rcases h with (h | ⟨o, h⟩) | h
 ·exact .inl (.inl (k _ h))
 ·exact .inl (.inr ⟨o, kf _ _ h⟩)
 ·exact .inr h
theorem Bch.sqt {K : PySem.W.Frag} {C : Addr} {H H' : Hp} {b S P : Addr} {ow : List Addr} {gs : List G} {past : List (List G)} (h : Bch C H b S P ow gs past) (k : Kp b P H H') {a : Addr} {xs : List V} (e : SqT K H a xs) : SqT K H' a xs :=
 SH e (fun _ e => h.tup k e) fun _ _ e => k a _ (h.neb e fun _ _ _ z => by cases z) (h.nep e fun _ z => by cases z) e
theorem Kept.sqt {K : PySem.W.Frag} {ow ow' : List Addr} {H H' : Hp} (k : Kept ow H H' ow') {a : Addr} {xs : List V} (e : SqT K H a xs) : SqT K H' a xs := SH e (fun _ e => k.tup _ _ e) fun _ _ e => k.frz _ _ _ e
end TG
namespace L2
open PySem
noncomputable def isInt : V → Bool
 | .int _ => true
 | _ => false
theorem WK {l : List V} {e : Int} (h : l.all isInt = true) (h0 : 0 ≤ e) (h1 : e < l.length) : ∃ i, atI l e = some (.int i) := by
 have hj : e.toNat < l.length := by lia
 have hi := List.all_eq_true.mp h _ (List.getElem_mem hj)
 have q : atI l e = some l[e.toNat] := by
  obtain ⟨j, rfl⟩ : ∃ j : Nat, e = j := ⟨e.toNat, by lia⟩
  have hj' : j < l.length := by lia
  have z : ixN l.length (j : Int) = some j := by unfold ixN; simp; lia
  unfold atI
  rw [z]
  exact List.getElem?_eq_getElem hj'
 cases hv : l[e.toNat] with
 | int i => exact ⟨i, by rw [q, hv]⟩
 | _ => rw [hv] at hi; cases hi
theorem Qb {l : List V} {e : Int} {P : V → Prop} (h : l.all isInt = true) (h0 : 0 ≤ e) (h1 : e < l.length) (k : ∀ i, P (.int i)) : ∃ x, atI l e = some x ∧ P x := by
 obtain ⟨i, hi⟩ := WK h h0 h1
 exact ⟨_, hi, k i⟩
end L2
namespace TG
open PySem L2
theorem WR {gs : List G} {past : List (List G)} {p x y : Int} (h : gs ≠ []) : (aft "lift" gs past p x y).1 ≠ [] := by
 cases he : Bl "lift" gs past p x y with
 | some e => rw [UW he]; exact h
 | none =>
  rw [Tb he]
  show Eb "lift" gs past p x y ≠ []
  rw [FL (by decide) (by decide)]
  intro z
  have := (Hk (gs := gs) (p := p) (o := [⟨p, (BS "lift" gs p x y).1, (BS "lift" gs p x y).2⟩]) (g := ⟨p, (BS "lift" gs p x y).1, (BS "lift" gs p x y).2⟩)).mpr (.inr (List.mem_singleton.mpr rfl))
  rw [z] at this
  cases this
theorem Yn {K : PySem.W.Frag} {H : Hp} {D : Addr} {gs : List G} (hd : A3 H D gs) (l40 : gs.length ≤ 40) : ∃ (kvs : List (Key × V)) (ks : List Int), H D = some (.dK kvs) ∧ kvs.map (·.1) = ks.map Sum.inl ∧ ks.length = gs.length ∧ kvs.length = gs.length ∧ ks.length < 64 := by
 obtain ⟨kvs, ks, eD, e2, pm, _⟩ := hd.at_
 have lk := pm.length_eq
 rw [List.length_map] at lk
 have lkv : kvs.length = ks.length := by have := congrArg List.length e2; simpa using this
 exact ⟨kvs, ks, eD, e2, lk, by lia, by lia⟩
end TG
namespace L2
open PySem PySem.Spec PyProof.Rows
theorem OO (ns : List Int) : ∀ i, i ≤ ns.length → (List.range i).map (fun i => ns.getD i 0) = ns.take i
 | 0, _ => rfl
 | i + 1, h => by
  rw [List.range_succ, List.map_append, OO ns i (by lia), List.take_succ_eq_append_getElem (show i < ns.length by lia)]
  congr 1
  show [ns.getD i 0] = _
  rw [List.getD_eq_getElem?_getD, List.getElem?_eq_getElem (show i < ns.length by lia)]
  rfl
theorem QJ (ns : List Int) : ∀ i, i ≤ ns.length → ((firstMet (fun i => ns.getD i 0) i).length = i ↔ (ns.take i).Nodup)
 | 0, _ => ⟨fun _ => List.nodup_nil, fun _ => rfl⟩
 | i + 1, h => by
  have hi : i < ns.length := by lia
  have ih := QJ ns i (by lia)
  have le := firstMet_length_le (fun i => ns.getD i 0) i
  have hv : ns.getD i 0 = ns[i] := by
   rw [List.getD_eq_getElem?_getD, List.getElem?_eq_getElem hi]
   rfl
  have ha : (firstMet (fun i => ns.getD i 0) i).any (· == ns.getD i 0) = true ↔ ns[i] ∈ ns.take i := by
   rw [firstMet_any, OO ns i (by lia), hv, List.any_eq_true]
   constructor
   ·rintro ⟨x, hx, e⟩
    rw [← (beq_iff_eq.mp e)]; exact hx
   ·intro hx
    exact ⟨_, hx, beq_iff_eq.mpr rfl⟩
  rw [firstMet_succ, step_length, List.take_succ_eq_append_getElem hi, List.nodup_append]
  by_cases hc : ns[i] ∈ ns.take i
  ·rw [if_pos (ha.mpr hc)]
   constructor
   ·intro z; lia
   ·rintro ⟨_, _, z⟩
    exact absurd rfl (z _ hc _ (List.mem_singleton.mpr rfl))
  ·rw [if_neg (fun z => hc (ha.mp z))]
   constructor
   ·intro z
    refine ⟨ih.mp (by lia), (by simp), fun a ha' b hb e => ?_⟩
    rw [List.mem_singleton.mp hb] at e
    exact hc (e ▸ ha')
   ·rintro ⟨z, _⟩
    have := ih.mpr z
    lia
section
variable {X : Cx}
noncomputable def Jd (K : PySem.W.Frag) : List V → Hp → VK → Prop := fun xs H Q => ∃ l, xs = [.ref l] ∧ ∃ ns : List Int, SqL K H l (ns.map V.int) ∧ ns.length < 4000 ∧
 ∀ (D : Addr) (H' : Hp) (S : Int → Bool) (n : Nat), H D = none → AI H H' → H' D = some (.set S n) → n ≤ ns.length → (n = ns.length ↔ ns.Nodup) → Q (.ref D) H'
theorem VM (hc : X.calm = true) : B1 X (.type "set") (Jd X.K) := by
 intro pins s σ H xs us Q I r h
 obtain ⟨l, rfl, ns, hl, h4, q⟩ := h
 obtain ⟨u, rfl, ru⟩ := vals1 r
 cases ru
 obtain ⟨its, rv, pl, hz⟩ := I.list hl
 have hlen := rv.length
 rw [List.length_map] at hlen
 have hn : its.toArray.size = ns.length := by rw [List.size_toArray, ← hlen]
 refine call_set_list (I.ok.hd hc) pl.isList (intsAre_of rv) (by rw [hn]; unfold scanBound; lia) fun h' tk hS kp => ?_
 rw [hn] at hS
 have hfr : H s.heap.objs.size = none := I.hok.fresh (Nat.le_refl _)
 have hm := QJ ns ns.length (Nat.le_refl _)
 rw [List.take_length] at hm
 exact ⟨.ref s.heap.objs.size, _, I.laid (t' := tk) (fun b o e => kp b o (Heap.lt_size e) e) (Nat.le_refl _) (show BU X.prog X.w _ h' _ (.set _ _) from hS), rfl, q _ _ _ _ hfr (A4 hfr) AQ (firstMet_length_le _ _) hm⟩
noncomputable def JI : List V → Hp → VK → Prop := fun xs H Q => ∃ a, xs = [V.ref a] ∧ ∃ (S : Int → Bool) (n : Nat), H a = some (.set S n) ∧ Q (.int n) H
theorem Ut : B1 X (.builtin "len") JI := by
 intro pins s σ H xs us Q I r h
 obtain ⟨a, rfl, S, n, ha, q⟩ := h
 obtain ⟨u, rfl, ru⟩ := vals1 r
 cases ru
 obtain ⟨o, es, ep, t, hg, hex, hd, _, _, hsz, hf, rfl⟩ := (show s.heap.SetOf (intKind X.prog X.w) a S n from I.hok a _ ha)
 exact call_len_set hg hex hd hf (by unfold scanBound at hsz; lia) ⟨.int es.size, H, I.tok _, ⟨_, rfl⟩, q⟩
end
end L2
namespace TG
open PySem L2
noncomputable def CV (gs : List G) (ps : List Int) : List G := ps.filterMap (A0 gs)
theorem Dj {gs : List G} {ps : List Int} {g : G} (h : g ∈ CV gs ps) : g ∈ gs := by
 obtain ⟨p, _, e⟩ := List.mem_filterMap.mp h
 exact (Bk e).1
theorem Bb {gs : List G} : ∀ {ps : List Int}, (∀ p ∈ ps, p ∈ AU gs) → AU (CV gs ps) = ps
 | [], _ => rfl
 | p :: ps, h => by
  have ih := Bb (gs := gs) (ps := ps) fun q hq => h q (List.mem_cons_of_mem _ hq)
  cases hg : A0 gs p with
  | none => exact absurd (h p List.mem_cons_self) (CT.mp hg)
  | some g =>
   have e : CV gs (p :: ps) = g :: CV gs ps := by unfold CV; rw [List.filterMap_cons, hg]
   rw [e]
   show g.p :: AU (CV gs ps) = _
   rw [ih, (Bk hg).2]
theorem FP {gs : List G} {ps : List Int} (h : ∀ p ∈ ps, p ∈ AU gs) : (CV gs ps).length = ps.length := by
 have := congrArg List.length (Bb h)
 rwa [List.length_map] at this
theorem WV {gs : List G} (ha : Asc gs) {ps : List Int} {g : G} (hg : g ∈ CV gs ps) : A0 gs g.p = some g := Mt ha (Dj hg)
theorem XS {K : PySem.W.Frag} {a : Addr} {gs : List G} {te : TE} {caps : St} {D : Addr} {H1 : Hp} {Q : Hp → Prop} (hl : SqL K H1 a ((AU gs).map V.int)) (hD : H1 D = none) (hz : gs.length ≤ 1000)
  (he : ∀ g H (R : VK), g ∈ gs → AI H1 H → (∀ p, H p = some (.tup (G.vs g)) → R (.ref p) H) → te (some (.int g.p) :: caps) H R)
  (hd : ∀ H as, AI H1 H → H D = some (.lst (as.map V.ref)) → At H as gs → Q H) : Gr te G8 caps (Itl K a) D H1 Q := by
 have hlen : ((AU gs).map V.int).length = gs.length := by rw [List.length_map, List.length_map]
 refine Px (xs := (AU gs).map V.int) (fun i ys H => ∃ as : List Addr, ys = as.map V.ref ∧ AI H1 H ∧ H D = some (.lst ys) ∧ At H as (gs.take i)) ⟨[], rfl, A4 hD, AQ, .nil⟩ (fun _ _ H _ ⟨_, _, s1, _⟩ => s1.seq hl) ?_ ?_
 ·rintro i x ys H hx hy ⟨as, rfl, s1, e1, g1⟩
  have hi : i < gs.length := by
   have := (List.getElem?_eq_some_iff.mp hx).1
   lia
  have ex : x = V.int gs[i].p := by
   rw [List.getElem?_map, List.getElem?_map, List.getElem?_eq_getElem hi] at hx
   exact (Option.some.inj hx).symm
  subst ex
  have et : gs.take (i + 1) = gs.take i ++ [gs[i]] := List.take_succ_eq_append_getElem hi
  refine he gs[i] H _ (List.getElem_mem hi) s1 fun p ep => Sc.of (by rw [hlen, PySem.sizeLine_eq]; lia) (by lia) hy e1 ⟨as ++ [p], by rw [List.map_append]; rfl, s1.updFresh hD, AQ, ?_⟩
  rw [et]
  have kt : ∀ a xs, H a = some (.tup xs) → upd H D (.lst (as.map V.ref ++ [V.ref p])) a = some (.tup xs) := fun a xs e => (AN (Be e e1 fun z => by cases z)).trans e
  exact At.append (g1.keep kt) (.cons (kt _ _ ep) .nil)
 ·rintro ys H hy ⟨as, rfl, s1, e1, g1⟩
  rw [hlen, List.take_length] at g1
  exact hd H as s1 e1 g1
noncomputable def Ed (ps : List Int) : Prop := ps = [] ∨ 40 < ps.length ∨ ¬ ps.Nodup
end TG
namespace L2
open PySem
theorem Zm : bootBuiltins "set" = some (.type "set") := by decide +kernel
open PySem.Spec PyProof.Rows
section
variable {X : Cx}
noncomputable def Ky (K : PySem.W.Frag) : R2 := fun x y H Q => ∃ a b, x = .ref a ∧ y = .ref b ∧ ∃ ns : List Int, SqL K H a (ns.map V.int) ∧ ∃ ms : List Int, SqL K H b (ms.map V.int) ∧ Q (.bl (decide (ns = ms))) H
end
end L2
namespace TG
open PySem L2
theorem Wr {K : PySem.W.Frag} {H : Hp} {D : Addr} {gs : List G} {Q : VK} (hd : A3 H D gs) (sd : Std gs) (k : ∀ (R : Addr) (H' : Hp), H R = none → AI H H' → H' R = some (.lst ((AU gs).map V.int)) → Q (.ref R) H') : MA K [.ref D] H Q := by
 obtain ⟨kvs, ks, eD, e2, pm, _⟩ := hd.at_
 have lk := pm.length_eq
 rw [List.length_map] at lk
 refine ⟨D, rfl, kvs, ks, eD, e2, by have := sd.len; lia, fun R H' ks' n s e pm' so => ?_⟩
 have ek : ks' = AU gs := Kh so (JT sd.asc) (pm'.trans pm)
 subst ek
 exact k R H' n s e
theorem Q4 : ∀ {xs ys : List Int}, xs.Nodup → (∀ x ∈ xs, x ∈ ys) → xs.length ≤ ys.length
 | [], _, _, _ => Nat.zero_le _
 | x :: xs, ys, nd, h => by
  have hx := h x List.mem_cons_self
  rw [List.nodup_cons] at nd
  have := Q4 (xs := xs) (ys := ys.erase x) nd.2 fun y hy => (List.mem_erase_of_ne (fun e => nd.1 (by rw [← e]; exact hy))).mpr (h y (List.mem_cons_of_mem _ hy))
  rw [List.length_erase_of_mem hx] at this
  have := List.length_pos_of_mem hx
  rw [List.length_cons]
  lia
theorem Uk {K : PySem.W.Frag} {D : Addr} {H : Hp} {gs : List G} {g : TG} {tb : TS} {De : Ip} {σ : St} {i : Nat} (hv : σ[i]? = some (some (.ref D))) (hd : A3 H D gs) (sd : Std gs)
  (k : ∀ (R : Addr) (H' : Hp), H R = none → AI H H' → H' R = some (.lst ((AU gs).map V.int)) → ∃ W : Nat → Nat → St → Hp → Prop, (∃ m, W 0 m σ H') ∧ ∀ i m σ H, W i m σ H →
   ((Ite K R).stop i H ∧ De.nx σ H) ∨ ((Ite K R).go i H ∧ ∃ N : St → Hp → Prop, (∀ σ' H', N σ' H' → ∃ m', m' < m ∧ W (i + 1) m' σ' H') ∧ ∀ x H', (Ite K R).yld i H x H' → g x σ H' fun σ2 H2 => tb { De with nx := N, ct := N, bk := De.nx } σ2 H2)) :
  tFor (IL K (GZ (tCB (MA K) (GZ (L0 i) KC)) KC)) g tb De σ H := by
 refine ⟨_, hv, ?_⟩
 have := Wr (K := K) (Q := fun x H1 => ∃ a, [x] = [V.ref a] ∧ (∃ xs, SqL K H1 a xs) ∧ ∃ W : Nat → Nat → St → Hp → Prop, (∃ m, W 0 m σ H1) ∧ ∀ i m σ H, W i m σ H →
   ((Ite K a).stop i H ∧ De.nx σ H) ∨ ((Ite K a).go i H ∧ ∃ N : St → Hp → Prop, (∀ σ' H', N σ' H' → ∃ m', m' < m ∧ W (i + 1) m' σ' H') ∧ ∀ x H', (Ite K a).yld i H x H' → g x σ H' fun σ2 H2 => tb { De with nx := N, ct := N, bk := De.nx } σ2 H2)) hd sd fun R H' n s e => ⟨R, rfl, ⟨_, SqL.of e⟩, k R H' n s e⟩
 exact this
open PySem.W
section
variable {K : Frag} {mg : Str → Option Value} {h : Heap}
theorem Ag {x : Str} {st : Stmt} {ps : List Str} (X : K.In h) (G : h.Ns mainGlobals mg) (e : A9 K x = Ar x x st [])
  (b : ∀ (kV doc pm : Value) (an : Option Addr) (cdv ct : Value) (us : List Value), us.length = ps.length → bindArgs (fnOf x x (Bz st) (BR st) (AG st) .none kV doc pm an cdv ct) ⟨us, []⟩ = pure (ps.zip us)) : ∃ f fd, D K mg x st ps f fd := by
 obtain ⟨f, oc, od, sl, kV, dc, pm, an, cd, ct, a, l, c, k⟩ := T2 e
 exact ⟨f, _, MR l c k, mg_of X G a, (MR l c k).binds b⟩
theorem Bt {C : Addr} {c x qual : Str} {st : Stmt} {ps : List Str} (hc : nsIn K mainGlobals c = some (some (.ref C))) (e : DJ K c x qual = Ar x qual st [])
  (b : ∀ (kV doc pm : Value) (an : Option Addr) (cdv ct : Value) (us : List Value), us.length = ps.length → bindArgs (fnOf x qual (Bz st) (BR st) (AG st) .none kV doc pm an cdv ct) ⟨us, []⟩ = pure (ps.zip us)) : ∃ f fd, DM K C x qual st ps f fd := by
 obtain ⟨f, oc, od, sl, kV, dc, pm, an, cd, ct, a, i, l, c, k⟩ := XC hc e
 exact ⟨f, _, MR l c k, ⟨a, i, k⟩, (MR l c k).binds b⟩
theorem Xm {C : Addr} {c x qual : Str} {st : Stmt} {ps : List Str} {j : Int} (hc : nsIn K mainGlobals c = some (some (.ref C))) (e : DJ K c x qual = Ar x qual st [j])
  (b : ∀ (s : Shared) (d : Addr) (kV doc pm : Value) (an : Option Addr) (cdv ct : Value) (cl : Value) (di : Option Addr) (n : Nat) (sl : Array (Option Value)) (tk : Tok) (us : List Value), s.heap.get? d = some ⟨cl, di, .seq #[.int j tk] n, sl⟩ → us.length = ps.length → BindsTo s (fnOf x qual (Bz st) (BR st) (AG st) (.ref d) kV doc pm an cdv ct) ⟨us, []⟩ (ps.zip us))
  (bd : ∀ (s : Shared) (d : Addr) (kV doc pm : Value) (an : Option Addr) (cdv ct : Value) (cl : Value) (di : Option Addr) (n : Nat) (sl : Array (Option Value)) (tk : Tok) (us : List Value), s.heap.get? d = some ⟨cl, di, .seq #[.int j tk] n, sl⟩ → us.length + 1 = ps.length → BindsTo s (fnOf x qual (Bz st) (BR st) (AG st) (.ref d) kV doc pm an cdv ct) ⟨us, []⟩ (ps.zip (us ++ [.int j tk]))) : ∃ f fd, DMD K C x qual st ps f fd [.int j] := by
 obtain ⟨f, oc, od, sl, d, kV, dc, pm, an, cd, ct, dcl, ddi, dn, dsl, tk, a, i, l, c, k, lt⟩ := WS hc e
 refine ⟨f, _, ⟨⟨_, _, _, _, _, _, _, _, _, _, rfl, l, c⟩, k⟩, ⟨a, i, k⟩, fun s us hK hl => ?_, ⟨[.int j tk], .cons ⟨_, rfl⟩ .nil, fun s us hK hl => ?_⟩⟩
 ·rw [List.append_nil] at hl ⊢
  exact b s d kV dc pm an cd ct dcl ddi dn dsl tk us (hK _ _ lt) hl
 ·exact bd s d kV dc pm an cd ct dcl ddi dn dsl tk us (hK _ _ lt) (by simpa using hl)
end
noncomputable def Sq (a b c d : Int) : Prop := b < 1 ∨ d < 1 ∨ ∃ x ∈ [a, b, c, d], x < -999999999 ∨ 999999999 < x
noncomputable def Tq (a b c d : Int) (g : G) : Bool := decide (Pas a b c d g.p g.f g.h)
theorem Kq {K : PySem.W.Frag} {a : Addr} {as : List Addr} {gs : List G} {te : TE} {tc : TT} {caps : St} {D : Addr} {H1 : Hp} {Q : Hp → Prop} (P : G → Bool) (f : G → V) (hl : SqL K H1 a (as.map V.ref)) (ga : At H1 as gs) (hD : H1 D = none) (hz : gs.length ≤ 1000)
  (ht : ∀ v g H (R : Bool → Hp → Prop), g ∈ gs → AI H1 H → H v = some (.tup (G.vs g)) → (∀ H', AI H H' → R (P g) H') → tc (some (.ref v) :: caps) H R)
  (he : ∀ v g H (R : VK), g ∈ gs → AI H1 H → H v = some (.tup (G.vs g)) → R (f g) H → te (some (.ref v) :: caps) H R)
  (hd : ∀ H, AI H1 H → H D = some (.lst ((gs.filter P).map f)) → Q H) : Gr te tc caps (Itl K a) D H1 Q := by
 have la := ga.len
 refine CA (xs := as.map V.ref) (fun i ys H => ys = ((gs.take i).filter P).map f ∧ AI H1 H ∧ H D = some (.lst ys)) ⟨rfl, A4 hD, AQ⟩ (fun _ _ H _ ⟨_, s1, _⟩ => s1.seq hl) ?_ ?_
 ·rintro i x ys H0 hx ⟨rfl, s0, e0⟩
  have hi : i < gs.length := by
   have := (List.getElem?_eq_some_iff.mp hx).1
   rw [List.length_map] at this
   lia
  obtain ⟨v, hv, t1⟩ := ga.get (List.getElem?_eq_getElem hi)
  have ex : x = V.ref v := by
   rw [List.getElem?_map, hv] at hx
   exact (Option.some.inj hx).symm
  subst ex
  have et : gs.take (i + 1) = gs.take i ++ [gs[i]] := List.take_succ_eq_append_getElem hi
  have hlen : (as.map V.ref).length = gs.length := by rw [List.length_map, la]
  have hle : (((gs.take i).filter P).map f).length ≤ i := by
   rw [List.length_map]
   exact Nat.le_trans (List.length_filter_le _ _) (List.length_take_le _ _)
  refine ht v gs[i] H0 _ (List.getElem_mem hi) s0 (s0.get t1) fun H s => ?_
  have s1 := s0.trans s
  have e1 := s.get e0
  by_cases hp : P gs[i] = true
  ·rw [if_pos hp]
   refine he v gs[i] H _ (List.getElem_mem hi) s1 (s1.get t1) ?_
   refine ⟨e1, by rw [PySem.sizeLine_eq]; lia, _, by lia, rfl, by lia, ?_, s1.updFresh hD, AQ⟩
   rw [et, List.filter_append, List.filter_cons, if_pos hp, List.filter_nil, List.map_append]
   rfl
  ·rw [if_neg hp]
   refine ⟨_, by lia, rfl, by lia, ?_, s1, e1⟩
   rw [et, List.filter_append, List.filter_cons, if_neg hp, List.filter_nil, List.append_nil]
 ·rintro ys H ⟨rfl, s1, e1⟩
  rw [List.length_map, la, List.take_length] at e1
  exact hd H s1 e1
theorem Qx {a b c d : Int} (h1 : 1 ≤ b) (h2 : 1 ≤ d) (h3 : a.natAbs ≤ 999999999) (h4 : b.natAbs ≤ 999999999) (h5 : c.natAbs ≤ 999999999) (h6 : d.natAbs ≤ 999999999) : ¬ Sq a b c d := by
 rintro (z | z | ⟨x, hx, z⟩)
 ·lia
 ·lia
 ·simp only [List.mem_cons, List.not_mem_nil, or_false] at hx
  rcases hx with rfl | rfl | rfl | rfl <;> lia
end TG
namespace L2
open PySem PySem.Spec PyProof.Rows
section
variable {prog : Program} {w : World} {A : Around} {R : Result → Shared → Prop} {I : Addr} {fp wr : List Addr} {G : Array GenState → Array GenState → Prop} {n : Nat} {P : Nat → Value → Prop} {St : Nat → Shared → Prop}
end
section
variable {X : Cx}
end
end L2
namespace TG
open PySem L2
end TG
namespace L2
open PySem PySem.Spec PyProof.Rows
section
variable {M : Model} {A : Around} {E : Value → Shared → Prop} {s : Shared} {B : Heap} {l : List Env} {ea : Addr} {kl a0 fl : Value}
end
section
variable {P : Program} {w : World} {K : PySem.W.Frag} {mg : Str → Option Value} {base : Heap} {N : List Str} {qual : Str} {scope : Scope} {f : Addr} {cd : Value} {A : Around} {outer : List Env} {s0 : Shared} {H0 : Hp} {E : XK}
 {pins pins' : List (Addr × Obj)} {σ σ' : St} {H H1 : Hp} {s s1 s' : Shared} {sc : Scope} {x : Str} {caps : List Str} {ix : List Nat}
end
section
variable {X : Cx} {pins : List (Addr × Obj)} {σ : St} {H : Hp} {s : Shared} {sc : Scope} {x : Str} {caps : List Str} {ix : List Nat}
end
section
variable {P : Program} {w : World} {K : PySem.W.Frag} {mg : Str → Option Value} {base : Heap} {N : List Str} {qual : Str} {scope : Scope} {f : Addr} {cd : Value} {A : Around} {outer : List Env} {s0 : Shared} {H0 : Hp} {E : XK}
 {sc : Scope} {x : Str} {caps : List Str} {ix : List Nat}
end
section
variable {X : Cx}
end
end L2
namespace TG
open PySem L2
theorem WJ {gs : List G} (ok : ∀ g ∈ gs, OkG g) (ha : Asc gs) (nb : Dz gs) {x0 y0 : G} (hx0 : x0 ∈ gs) (hy0 : y0 ∈ gs) (l0 : x0.p < y0.p) : ∃ x ∈ gs, ∃ y ∈ gs, x.p < y.p ∧ ∀ g ∈ gs, Im (x.f * y.p - y.h * x.p) (y.h - x.f) (y.p - x.p) g := by
 let ps : List (Int × Int) := gs.flatMap fun x => (gs.filter fun y => decide (x.p < y.p)).map fun y => (y.h - x.f, y.p - x.p)
 have mem : ∀ {x y : G}, x ∈ gs → y ∈ gs → x.p < y.p → (y.h - x.f, y.p - x.p) ∈ ps := fun {x y} hx hy l =>
  List.mem_flatMap.mpr ⟨x, hx, List.mem_map.mpr ⟨y, List.mem_filter.mpr ⟨hy, decide_eq_true l⟩, rfl⟩⟩
 have inv : ∀ z ∈ ps, ∃ x ∈ gs, ∃ y ∈ gs, x.p < y.p ∧ z = (y.h - x.f, y.p - x.p) := fun z hz => by
  obtain ⟨x, hx, h2⟩ := List.mem_flatMap.mp hz
  obtain ⟨y, hy, rfl⟩ := List.mem_map.mp h2
  obtain ⟨h3, h4⟩ := List.mem_filter.mp hy
  exact ⟨x, hx, y, h3, of_decide_eq_true h4, rfl⟩
 obtain ⟨z, hz, hm⟩ := N1 ps (fun e => by have := mem hx0 hy0 l0; rw [e] at this; simp at this) (fun z hz => by
  obtain ⟨x, _, y, _, l, rfl⟩ := inv z hz
  show 0 < y.p - x.p
  lia)
 obtain ⟨x, hx, y, hy, l, rfl⟩ := inv z hz
 refine ⟨x, hx, y, hy, l, Nw ok hx hy l (fun x' hx' y' hy' l' => hm _ (mem hx' hy' l')) (fun g hg g' hg' e => OS ha hg hg' e) (fun m hm l1 hb => ?_) (fun m hm l1 hb => ?_)⟩
 ·exact IW ha nb hm hx hy l1 l (.inl hb)
 ·exact IW ha nb hx hy hm l l1 (.inr hb)
structure X2 (gs : List G) (ts : List Thr) : Prop where
 ne : ts ≠ []
 ok : ∀ t ∈ ts, OkT t
 one : ∃ t ∈ ts, ∃ g ∈ gs, t.pas g
 two : ∀ x ∈ gs, ∀ y ∈ gs, x.p < y.p → ∃ t ∈ ts, ∀ g : G, t.pas g ↔ Im (x.f * y.p - y.h * x.p) (y.h - x.f) (y.p - x.p) g
noncomputable def Ws (gs : List G) (t : Thr) : Nat := (gs.filter fun g => decide (t.pas g)).length
theorem Sx {gs : List G} {ts : List Thr} {t : Thr} (T : X2 gs ts) (ok : ∀ g ∈ gs, OkG g) (ha : Asc gs) (best : ∀ t' ∈ ts, Ws gs t' ≤ Ws gs t) (u w m : Int) (hm : 0 < m) (ps : List G) (hs : ps.Sublist gs) (hp : ∀ g ∈ ps, Im u w m g) : ps.length ≤ Ws gs t := by
 match ps, hs, hp with
 | [], _, _ => exact Nat.zero_le _
 | [x], _, _ =>
  obtain ⟨t', ht, g, hg, p⟩ := T.one
  have : 0 < Ws gs t' := List.length_pos_iff.mpr fun z => by
   have : g ∈ gs.filter fun g => decide (t'.pas g) := List.mem_filter.mpr ⟨hg, decide_eq_true p⟩
   rw [z] at this
   exact absurd this (by simp)
  exact Nat.le_trans this (best t' ht)
 | x0 :: y0 :: r, hs, hp =>
  generalize hr : x0 :: y0 :: r = ps at *
  have ap : Asc ps := List.Pairwise.sublist hs ha
  have hx0 : x0 ∈ ps := by rw [← hr]; simp
  have hy0 : y0 ∈ ps := by rw [← hr]; simp
  have l0 : x0.p < y0.p := by
   rw [← hr] at ap
   exact (List.pairwise_cons.mp ap).1 y0 (by simp)
  obtain ⟨x, hx, y, hy, l, all⟩ := WJ (fun g hg => ok g (hs.subset hg)) ap (TZ ap hm hp) hx0 hy0 l0
  obtain ⟨t', ht, hpas⟩ := T.two x (hs.subset hx) y (hs.subset hy) l
  have hf := hs.filter fun g => decide (t'.pas g)
  rw [List.filter_eq_self.mpr fun g hg => decide_eq_true ((hpas g).mpr (all g hg))] at hf
  exact Nat.le_trans hf.length_le (best t' ht)
end TG
namespace LM
open PySem PySem.Spec PySem.Calls PyProof.Rows PySem.W L2
noncomputable abbrev IS (x : Str) (p1 p2 p3 p4 p5 : Pos) : Expr := .Call (.Name "len" p1) [.Subscript (.Name x p2) (.Constant (.int 0) 0 p3) p4] [] p5
section
variable {prog : Program} {w : World} {A : Around} {E : Value → Shared → Prop} {s : Shared}
theorem WN {q t l c' : Addr} {x name qual : Str} {params : Arguments} {scope : Scope} {pm ctv : Value} {p1 p2 p3 p4 p5 : Pos} {mg mb : Str → Option Value} {its lits : Array Value} {Q : Value → Shared → Prop}
  (hq : s.heap.get? q = some (kla_obj name qual params (IS x p1 p2 p3 p4 p5) scope [] pm c' ctv)) (hcd : s.heap.CodeRec (.ref c') qual) (hroom : A.in1.depth < recursionLimit)
  (hbind : ∀ v, bindArgs (kla_fn name qual params (IS x p1 p2 p3 p4 p5) scope [] pm (.ref c') ctv) ⟨[v], []⟩ = pure [(x, v)])
  (hx : scope.names.lookup x = some .local) (hl : scope.names.lookup ("len" : Str) = some .globalImplicit) (hcell : ∀ y ∈ scope.names, y.2 ≠ .cell) (hk : scope.kind = .function) (hco : scope.isCoroutine = false) (hgen : scope.isGenerator = false)
  (hdx : (x == ("__debug__" : Str)) = false)
  (hg : s.heap.Ns mainGlobals mg) (hm : mg "len" = none) (hb : s.heap.Ns builtinsNs mb) (hbb : mb "len" = bootBuiltins "len") (hlim : s.heap.NoLimit)
  (ht : IsTup s.heap t its) (h0 : its[0]? = some (.ref l)) (hsz : its.size ≤ sizeLine) (hls : s.heap.IsList l lits) (hlz : lits.size ≤ sizeLine)
  (h : ∀ h' tk u, (∀ b o, s.heap.get? b = some o → h'.get? b = some o) → Q (.int lits.size u) { s with heap := h', toks := tk }) :
  wpAny (model prog w) A.in1 (call (.ref q) [.ref t]) Q E s := by
 refine wpAny_call ?_
 refine kla_callFunE hroom hq rfl hco hgen rfl hcd ?_
 rw [hbind]
 refine wpAny_pure (wpAny_newFunctionEnv hcell (by intro y hy; rw [List.mem_singleton.mp hy]; exact hx) (fun h₁ hns hsb => ?_) hk)
 have hk₁ : ∀ b o, s.heap.get? b = some o → h₁.get? b = some o := fun b o e => hsb.extBut b o (Nat.ne_of_lt (Heap.lt_size e)) (Heap.get?_push_of_some _ e)
 refine ⟨hlim.keeps hk₁, ?_⟩
 refine kla_codeExpr ?_
 refine wpAny_Call_Name_kw (Calls.Name_function_global hk hl (Calls.loadGlobal_builtin (hg.keeps hk₁) hm (hb.keeps hk₁) (hbb.trans rfl) ?_) (by decide))
 refine PyProof.Rows.callWith_builtin1 ?_ rfl rfl
 show wpAny _ _ (spliced ((false, eval (.Subscript (.Name x p2) (.Constant (.int 0) 0 p3) p4) _) :: [])) _ _ _
 refine Calls.spliced_cons ?_
 refine Subscript_ (wpAny_Name (wpAny_loadName_local (v := .ref t) hk hx hns (by simp) ?_) hdx)
 refine wpAny_Constant_int ?_
 have ht' := ht.keeps hk₁
 have hls' : h₁.IsList l lits := by obtain ⟨o, e, r⟩ := hls; exact ⟨o, hk₁ _ _ e, r⟩
 have hn := N3
 refine subscriptTail_builtinR (x := .ref l) ht'.typeIs slot_tuple_getitem.lookup
  (getItem_tuple (j := 0) ht' (by decide) (by decide) (seqIndex_of (by decide) ?_) h0 ⟨rfl, ?_⟩)
 ·have : 0 < its.size := by
   rcases Nat.eq_zero_or_pos its.size with z | z
   ·rw [Array.getElem?_eq_none (by lia)] at h0; cases h0
   ·exact z
  lia
 refine Calls.spliced_nil ?_
 exact Calls.call_len_list hls' (by lia) (h _ _ _ hk₁)
theorem Xh {L l q c' : Addr} {m : Str → Option Value} {x name qual : Str} {params : Arguments} {scope : Scope} {pm ctv : Value} {p1 p2 p3 p4 p5 : Pos} {mg mb : Str → Option Value} {vs : List Value} {kf : Nat → Nat} {Q : Value → Shared → Prop}
  (hL : s.heap.Ns L m) (hqL : q ≠ L) (hcL : c' ≠ L) (hh : A.handled = none) (hgL : mainGlobals ≠ L) (hbL : builtinsNs ≠ L)
  (hq : s.heap.get? q = some (kla_obj name qual params (IS x p1 p2 p3 p4 p5) scope [] pm c' ctv)) (hcd : s.heap.CodeRec (.ref c') qual) (hroom : A.in1.depth < recursionLimit)
  (hbind : ∀ v, bindArgs (kla_fn name qual params (IS x p1 p2 p3 p4 p5) scope [] pm (.ref c') ctv) ⟨[v], []⟩ = pure [(x, v)])
  (hx : scope.names.lookup x = some .local) (hl : scope.names.lookup ("len" : Str) = some .globalImplicit) (hcell : ∀ y ∈ scope.names, y.2 ≠ .cell) (hk : scope.kind = .function) (hco : scope.isCoroutine = false) (hgen : scope.isGenerator = false)
  (hdx : (x == ("__debug__" : Str)) = false)
  (hg : s.heap.Ns mainGlobals mg) (hm : mg "len" = none) (hb : s.heap.Ns builtinsNs mb) (hbb : mb "len" = bootBuiltins "len") (hlim : ∀ h : Heap, (∀ b o, b ≠ L → s.heap.get? b = some o → h.get? b = some o) → h.NoLimit)
  (hll : s.heap.IsList l vs.toArray) (hlL : l ≠ L) (hne : 0 < vs.length)
  (hvs : ∀ (i : Nat) (v : Value), vs[i]? = some v → ∃ t pl its lits, v = .ref t ∧ t ≠ L ∧ pl ≠ L ∧ IsTup s.heap t its ∧ its[0]? = some (.ref pl) ∧ its.size ≤ sizeLine ∧ s.heap.IsList pl lits ∧ lits.size ≤ sizeLine ∧ lits.size = kf i)
  (h : ∀ i v h' tk', vs[i]? = some v → (∀ j, j < vs.length → kf j ≤ kf i ∧ (j < i → kf j < kf i)) → h'.Ns L m → (∀ b o, b ≠ L → s.heap.get? b = some o → h'.get? b = some o) → Q v { s with heap := h', toks := tk' }) :
  wpAny (model prog w) A (call (.builtin "max") [.ref l] [(Str.ofString "key", .ref q)]) Q E s := by
 obtain ⟨oL, _, _, hoL, _⟩ := id hL
 have hN : News (Att.noObjs s.heap) L s.heap (Att.ledger s.heap L L) := fun ⟨a, o⟩ hp => ⟨(Att.mem_ledger.mp hp).2.2, (Att.mem_ledger.mp hp).1, Att.noObjs_get _ _⟩
 have kOf : ∀ {h : Heap} {own : List (Addr × Obj)}, News (Att.noObjs s.heap) L h (Att.ledger s.heap L L ++ own) → ∀ b o, b ≠ L → s.heap.get? b = some o → h.get? b = some o :=
  fun N b o nb e => (N (b, o) (List.mem_append_left _ (Att.mem_ledger.mpr ⟨nb, nb, e⟩))).1
 have kOf' : ∀ {h : Heap}, News (Att.noObjs s.heap) L h (Att.ledger s.heap L L) → ∀ b o, b ≠ L → s.heap.get? b = some o → h.get? b = some o :=
  fun N b o nb e => (N (b, o) (Att.mem_ledger.mpr ⟨nb, nb, e⟩)).1
 refine kmk_max (fun i => (kf i : Int)) hh (Att.fr_all hL) hN (fun h' F N => ?_) hne (fun i v hv h' tk own F N => ?_) fun i v h' tk' hv hbest F N => ?_
 ·obtain ⟨o, e, r⟩ := hll
  exact ⟨o, kOf' N _ _ hlL e, r⟩
 ·obtain ⟨t, pl, its, lits, rfl, ntL, nplL, ht, h0, hsz, hpl, hlz, hkf⟩ := hvs i v hv
  have k := kOf N
  refine WN (s := { s with heap := h', toks := tk }) (its := its) (lits := lits) (l := pl) (mg := mg) (mb := mb) (k _ _ hqL hq) ?_ hroom hbind hx hl hcell hk hco hgen hdx ?_ hm ?_ hbb (hlim h' k) ?_ h0 hsz ?_ hlz fun h'' tk2 u k2 => ?_
  ·obtain ⟨c, oc, vs, tq, hc, hoc, r⟩ := hcd
   cases hc
   exact ⟨c', oc, vs, tq, rfl, k _ _ hcL hoc, r⟩
  ·obtain ⟨o, es, ep, e, r⟩ := hg
   exact ⟨o, es, ep, k _ _ hgL e, r⟩
  ·obtain ⟨o, es, ep, e, r⟩ := hb
   exact ⟨o, es, ep, k _ _ hbL e, r⟩
  ·obtain ⟨o, e, r⟩ := ht
   exact ⟨o, k _ _ ntL e, r⟩
  ·obtain ⟨o, e, r⟩ := hpl
   exact ⟨o, k _ _ nplL e, r⟩
  ·rw [hkf]
   refine ⟨h'', tk2, u, rfl, rfl, ⟨F.ns.keeps k2, fun b o e => ?_, F.above⟩, fun p hp => ⟨k2 _ _ (N p hp).1, (N p hp).2⟩⟩
   rw [Att.noObjs_get] at e; cases e
 ·exact h i v h' tk' hv (fun j hj => by have := hbest j hj; exact ⟨by have := this.1; lia, fun z => by have := this.2 z; lia⟩) F.ns (kOf' N)
end
noncomputable def Tbl (H : Hp) (P : Addr) (pos : Pos) (qual : Str) : Prop :=
 H P = some (.tbl #[]) ∨ ∃ c o u vs t, H P = some (.tbl #[rawInt pos.line, rawInt pos.col, .ref c]) ∧ H c = some (.frz o u) ∧ o.data = .fields vs ∧ vs[1]? = some (.str qual t)
theorem Tbl.tab {H : Hp} {P : Addr} {pos : Pos} {qual : Str} (h : Tbl H P pos qual) : ∃ ps, H P = some (.tbl ps) := by
 rcases h with h | ⟨c, _, _, _, _, h, _⟩
 ·exact ⟨_, h⟩
 ·exact ⟨_, h⟩
section
variable {X : Cx} {pins : List (Addr × Obj)} {σ : L2.St} {H : Hp} {s : Shared} {h' : Heap}
theorem WH {h h' : Heap} {L : Addr} {m m' : Str → Option Value} (a : h.Ns L m) (b : h'.Ns L m) (c : h.Ns L m') : h'.Ns L m' := by
 rw [c.eq_nsMap, ← a.eq_nsMap]; exact b
theorem keptL {t' : Nat} {m : Str → Option Value} (I : Inv X pins σ H s) (hm : s.heap.Ns X.env.locals m) (hm' : h'.Ns X.env.locals m) (k : ∀ b o, b ≠ X.env.locals → s.heap.get? b = some o → h'.get? b = some o) : Inv X pins σ H { s with heap := h', toks := t' } := by
 have nL : ∀ b u, H b = some u → b ≠ X.env.locals := fun b u e z => by rw [z, I.free] at e; cases e
 refine I.step (g' := s.gens) (d' := s.drawn) (ch := []) (fun _ z => nomatch z) (fun b o hb _ _ e _ => k b o hb e) (fun b o hb _ _ e _ => ⟨o.slots, k b o hb e⟩) (fun _ _ _ _ n => n) (fun b o _ e => ?_) (fun _ _ e => e) (fun _ _ _ e => e) (fun b ps e => ⟨#[], by rw [e]; simp⟩) (fun m2 h2 => WH hm hm' h2) (fun b u e => ?_) I.bare
 ·by_cases hb : b = X.env.locals
  ·obtain ⟨o', _, _, e', _⟩ := hm'
   exact ⟨o', by rw [hb]; exact e'⟩
  ·exact ⟨o, k b o hb e⟩
 ·refine (I.hok b u e).stay (fun c v hc q => k c v ?_ q) (fun _ q => q) fun _ _ q => q
  rcases hc with rfl | hc
  ·exact nL _ _ e
  ·exact nL _ _ hc
theorem Zc {t' : Nat} {m : Str → Option Value} {P c : Addr} {ps : Array Value} {v : Value} {l1 l2 : Value} {oc : Obj} (I : Inv X pins σ H s) (hP : H P = some (.tbl ps)) (hc : s.heap.objs.size ≤ c) (hcL : c ≠ X.env.locals) (hm : s.heap.Ns X.env.locals m) (hm' : h'.Ns X.env.locals m)
  (k : ∀ b o, b ≠ X.env.locals → b ≠ P → s.heap.get? b = some o → h'.get? b = some o) (kP : h'.get? P = some (PySem.W.tabObj (ps ++ #[l1, l2, v]))) (kc : h'.get? c = some oc) :
  Inv X pins σ (upd (upd H P (.tbl (ps ++ #[l1, l2, v]))) c (.frz oc (.ext fun _ => True))) { s with heap := h', toks := t' } := by
 have nL : ∀ b u, H b = some u → b ≠ X.env.locals := fun b u e z => by rw [z, I.free] at e; cases e
 have nc : ∀ b u, H b = some u → b ≠ c := fun b u e z => by rw [z, I.hok.fresh hc] at e; cases e
 have nc' : ∀ b o, s.heap.get? b = some o → b ≠ c := fun b o e => Nat.ne_of_lt (Nat.lt_of_lt_of_le (Heap.lt_size e) hc)
 have nP : ∀ b, H b = none → b ≠ P := fun b e z => by rw [z, hP] at e; cases e
 have get : ∀ b u, H b = some u → b ≠ P → upd (upd H P (.tbl (ps ++ #[l1, l2, v]))) c (.frz oc (.ext fun _ => True)) b = some u := fun b u e z => by rw [AN (nc b u e), AN z]; exact e
 refine I.step (g' := s.gens) (d' := s.drawn) (ch := []) (fun _ z => nomatch z) (fun b o hb _ _ e n => k b o hb (nP b n) e) (fun b o hb _ _ e n => ⟨o.slots, k b o hb (nP b n) e⟩) (fun b o _ e n => by rw [AN (nc' b o e), AN (nP b n)]; exact n) (fun b o _ e => ?_)
  (fun b xs e => get b _ e fun z => by rw [z, hP] at e; cases e) (fun b o u e => get b _ e fun z => by rw [z, hP] at e; cases e) (fun b qs e => ?_) (fun m2 h2 => WH hm hm' h2) (fun b u e => ?_) I.bare
 ·by_cases hb : b = X.env.locals
  ·obtain ⟨o', _, _, e', _⟩ := hm'
   exact ⟨o', by rw [hb]; exact e'⟩
  ·by_cases hb2 : b = P
   ·exact ⟨_, by rw [hb2]; exact kP⟩
   ·exact ⟨o, k b o hb hb2 e⟩
 ·by_cases hb : b = P
  ·subst hb
   rw [hP] at e; cases e
   exact ⟨#[l1, l2, v], by rw [AN (nc b _ hP), AQ]⟩
  ·exact ⟨#[], by rw [get b _ e hb]; simp⟩
 ·by_cases hb : b = c
  ·subst hb
   rw [AQ] at e; cases e
   exact ⟨kc, trivial, ⟨_, kc⟩, fun _ _ _ _ => trivial⟩
  ·rw [AN hb] at e
   by_cases hb2 : b = P
   ·subst hb2
    rw [AQ] at e; cases e
    exact kP
   ·rw [AN hb2] at e
    refine (I.hok b u e).stay (fun d w hd q => k d w ?_ ?_ q) (fun d q => get d _ q fun z => by rw [z, hP] at q; cases q) fun d xs q => get d _ q fun z => by rw [z, hP] at q; cases q
    ·rcases hd with rfl | hd
     ·exact nL _ _ e
     ·exact nL _ _ hd
    ·rcases hd with rfl | hd
     ·exact hb2
     ·intro z; rw [z, hP] at hd; cases hd
end
structure Sn (K : PySem.W.Frag) (mg : Str → Option Value) (cd : Value) (c P : Addr) : Prop where
 cd : cd = .ref c
 hd : ∀ h, K.In h → PySem.W.CodeHd h c P
 bm : ∀ h, K.In h → ∃ bm o, mg "__builtins__" = some (.ref bm) ∧ bm ≠ builtinsNs ∧ bm ≠ mainGlobals ∧ h.get? bm = some o ∧ o.cls = .type "module" ∧ o.dict = some builtinsNs ∧ o.data = .plain
structure LamOk (x : Str) (params : Arguments) (scope : Scope) : Prop where
 df : params.defaults = []
 kd : params.kw_defaults = []
 bind : ∀ name qual body cl pm cdv ct v, bindArgs (kla_fn name qual params body scope cl pm cdv ct) ⟨[v], []⟩ = pure [(x, v)]
 hx : scope.names.lookup x = some .local
 hl : scope.names.lookup ("len" : Str) = some .globalImplicit
 cell : ∀ y ∈ scope.names, y.2 ≠ .cell
 kind : scope.kind = .function
 co : scope.isCoroutine = false
 gen : scope.isGenerator = false
 db : (x == ("__debug__" : Str)) = false
 clos : ∀ env, closureFor scope env = pure []
noncomputable def tMaxK (K : PySem.W.Frag) (P : Addr) (lpos : Pos) (qual : Str) (t : TE) : TE := fun σ H Q => t σ H fun v H1 => ∃ (l : Addr) (xs : List V) (kf : Nat → Nat), v = .ref l ∧ SqL K H1 l xs ∧ 0 < xs.length ∧ Tbl H1 P lpos qual ∧
 (∀ i y, xs[i]? = some y → ∃ p pl z ys, y = .ref p ∧ SqT K H1 p (.ref pl :: z) ∧ SqL K H1 pl ys ∧ ys.length = kf i) ∧
 ∀ i y H2, xs[i]? = some y → (∀ j, j < xs.length → kf j ≤ kf i ∧ (j < i → kf j < kf i)) → Tbl H2 P lpos qual → (∀ b u, b ≠ P → H1 b = some u → H2 b = some u) → Q y H2
section
variable {X : Cx}
theorem XE {c P : Addr} {x : Str} {e : Expr} {te : TE} {params : Arguments} {scope : Scope} {p p1 p2 p3 p4 p5 lpos kp pos : Pos} (hg : Gl X "max") (hm : X.mg "max" = none) (hml : X.mg "len" = none) (hr : CJ 2 X.A) (LA : Sn X.K X.mg X.env.code c P) (LO : LamOk x params scope) (hpe : PE X e te)
  (hse : starEach [e] X.env = (false, eval e X.env) :: starEach [] X.env := by rfl) :
  PE X (.Call (.Name "max" p) [e] [⟨some "key", .Lambda params (IS x p1 p2 p3 p4 p5) scope lpos, kp⟩] pos) (tMaxK X.K P lpos (X.env.qual ++ "<lambda>") te) := by
 intro pins s σ H Q I h
 refine wpAny_Call_Name_kw (KB I hg hm (u := .builtin "max") rfl ?_)
 refine callWith_kw ?_ (by rw [hse]; rfl) (by rw [hse]; rfl) rfl rfl
 rw [hse]
 show wpAny _ _ (spliced ((false, eval e X.env) :: [])) _ _ s
 refine Calls.spliced_cons (thn (hpe pins s σ H _ I h) fun u s1 ⟨v, H1, I1, r1, q1⟩ => Calls.spliced_nil ?_)
 obtain ⟨l, xs, kf, rfl, hl, h0, tb, hxs, k⟩ := q1
 cases r1
 refine kws_cons (kla_eval (by rw [defaultsOf_eq, LO.df, LO.kd]; rfl) ?_)
 obtain ⟨its, ri, pl, hz⟩ := I1.list hl
 obtain ⟨m, hn, hlook⟩ := id I1.loc
 obtain ⟨mb, hb1, hb2⟩ := I1.mod.blt
 have hG := I1.mod.glob.keeps I1.bk
 have hB := hb1.keeps I1.bk
 obtain ⟨ps, hP⟩ := tb.tab
 have gP : s1.heap.get? P = some (PySem.W.tabObj ps) := I1.hok P _ hP
 have nLP : X.env.locals ≠ P := fun z => by have := I1.free; rw [z, hP] at this; cases this
 have bP : ∀ b o, X.base.get? b = some o → b ≠ P := fun b o e z => by have := (I1.bs b o e).2; rw [z, hP] at this; cases this
 have bL : ∀ b o, X.base.get? b = some o → b ≠ X.env.locals := fun b o e => Nat.ne_of_lt (Nat.lt_of_lt_of_le (Heap.lt_size e) (Nat.le_trans I1.ok.bsz I1.ok.above))
 have gM : ∃ o, X.base.get? mainGlobals = some o := let ⟨o, _, _, e, _⟩ := I1.mod.glob; ⟨o, e⟩
 have gB : ∃ o, X.base.get? builtinsNs = some o := let ⟨o, _, _, e, _⟩ := hb1; ⟨o, e⟩
 have lstN : ∀ a its, s1.heap.IsList a its → a ≠ P ∧ a ≠ X.env.locals := fun a its ⟨o, e, c1, n, d1⟩ => by
  refine ⟨fun z => ?_, fun z => ?_⟩
  ·rw [z, gP] at e; cases e; cases c1
  ·obtain ⟨o', _, _, e', d', _⟩ := id hn
   rw [z, e'] at e; cases e; rw [d'] at d1; cases d1
 have tupN : ∀ a its, IsTup s1.heap a its → a ≠ P ∧ a ≠ X.env.locals := fun a its ⟨o, e, c1, n, d1⟩ => by
  refine ⟨fun z => ?_, fun z => ?_⟩
  ·rw [z, gP] at e; cases e; cases c1
  ·obtain ⟨o', _, _, e', d', _⟩ := id hn
   rw [z, e'] at e; cases e; rw [d'] at d1; cases d1
 have run : ∀ (h2 : Heap) (tk : Nat) (q c' : Addr) (ctv : Value), (∀ b o, b ≠ P → s1.heap.get? b = some o → h2.get? b = some o) → q ≠ X.env.locals → c' ≠ X.env.locals →
   h2.get? q = some (kla_obj "<lambda>" (X.env.qual ++ "<lambda>") params (IS x p1 p2 p3 p4 p5) scope [] ((X.mg "__name__").getD .none) c' ctv) → h2.CodeRec (.ref c') (X.env.qual ++ "<lambda>") →
   (∀ (h3 : Heap) (tk3 : Nat), h3.Ns X.env.locals m → (∀ b o, b ≠ X.env.locals → h2.get? b = some o → h3.get? b = some o) → ∃ H2, Inv X pins σ H2 { s1 with heap := h3, toks := tk3 } ∧ Tbl H2 P lpos (X.env.qual ++ "<lambda>") ∧ ∀ b u, b ≠ P → H1 b = some u → H2 b = some u) →
   wpAny (model X.prog X.w) X.A (call (.builtin "max") [.ref l] [(Str.ofString "key", .ref q)]) (EP X pins σ Q) X.xe { s1 with heap := h2, toks := tk } := by
  intro h2 tk q c' ctv k2 hqL hcL hq hcd fin
  have ll := lstN l _ pl.isList
  refine Xh (s := { s1 with heap := h2, toks := tk }) (L := X.env.locals) (m := m) (mg := X.mg) (mb := mb) (vs := its) (kf := kf) ?_ hqL hcL hr.hd ?_ ?_ hq hcd ?_ (fun v => LO.bind _ _ _ _ _ _ _ v) LO.hx LO.hl LO.cell LO.kind LO.co LO.gen LO.db ?_ hml ?_ (hb2 _ (by decide)) (fun h3 k3 => ?_) ?_ ll.2 ?_ (fun i v hv => ?_) fun i v h3 tk3 hv best hns k3 => ?_
  ·obtain ⟨o, es, ep, e, r⟩ := hn
   exact ⟨o, es, ep, k2 _ _ nLP e, r⟩
  ·obtain ⟨o, e⟩ := gM
   exact bL _ _ e
  ·obtain ⟨o, e⟩ := gB
   exact bL _ _ e
  ·have := hr.dp
   show X.A.depth < _
   lia
  ·exact I1.mod.glob.keeps fun b o e => k2 b o (bP b o e) (I1.bk b o e)
  ·exact hb1.keeps fun b o e => k2 b o (bP b o e) (I1.bk b o e)
  ·exact I1.mod.nolimit.keeps fun b o e => k3 b o (bL b o e) (k2 b o (bP b o e) (I1.bk b o e))
  ·obtain ⟨o, e, r⟩ := pl.isList
   exact ⟨o, k2 _ _ ll.1 e, r⟩
  ·rw [← ri.length]; exact h0
  ·have hi := (List.getElem?_eq_some_iff.mp hv).1
   have hi' : i < xs.length := by rw [ri.length]; exact hi
   obtain ⟨v', ev', rv'⟩ := ri.get (List.getElem?_eq_getElem hi')
   rw [hv] at ev'; cases ev'
   obtain ⟨pp, pa, z, ys, ey, hT, hLs, hlen⟩ := hxs i _ (List.getElem?_eq_getElem hi')
   rw [ey] at rv'
   cases rv'
   obtain ⟨it2, r2, pt, hz2⟩ := I1.tuple hT
   obtain ⟨it3, r3, pl3, hz3⟩ := I1.list hLs
   obtain ⟨w0, ew0, rw0⟩ := r2.get (i := 0) (x := .ref pa) rfl
   cases rw0
   have t1 := tupN _ _ pt
   have t2 := lstN _ _ pl3.isList
   refine ⟨pp, pa, it2.toArray, it3.toArray, rfl, t1.2, t2.2, ?_, by simpa using ew0, ?_, ?_, ?_, ?_⟩
   ·obtain ⟨o, e, r⟩ := pt
    exact ⟨o, k2 _ _ t1.1 e, r⟩
   ·rw [List.size_toArray, ← r2.length]; exact hz2
   ·obtain ⟨o, e, r⟩ := pl3.isList
    exact ⟨o, k2 _ _ t2.1 e, r⟩
   ·rw [List.size_toArray, ← r3.length]; exact hz3
   ·rw [List.size_toArray, ← r3.length]; exact hlen
  ·have hi := (List.getElem?_eq_some_iff.mp hv).1
   have hi' : i < xs.length := by rw [ri.length]; exact hi
   obtain ⟨v', ev', rv'⟩ := ri.get (List.getElem?_eq_getElem hi')
   rw [hv] at ev'; cases ev'
   obtain ⟨H2, I2, tb2, s2⟩ := fin h3 tk3 hns k3
   exact ⟨_, H2, I2, rv', k i _ H2 (List.getElem?_eq_getElem hi') (fun j hj => best j (by rw [← ri.length]; exact hj)) tb2 s2⟩
 obtain ⟨bm, ob, b1, b2, b3, b4, b5⟩ := LA.bm _ I1.mod.kin
 have hBA : s1.heap.BuiltinsAt X.mg P := ⟨bm, ob, b1, b2, b3, bP _ _ b4, I1.bk _ _ b4, b5⟩
 have hCH : PySem.W.CodeHd s1.heap c P := LA.hd _ I1.kIn
 have hgP : mainGlobals ≠ P := let ⟨_, e⟩ := gM; bP _ _ e
 have lL : X.env.locals < s1.heap.objs.size := I1.lt
 rcases id tb with tb0 | ⟨c0, o0, u0, vs0, t0, e1, e2, e3, e4⟩
 ·-- the first call
  rw [hP] at tb0; cases tb0
  refine kla_makeFunction (LO.clos _) I1.ok.glob hG LA.cd hCH gP trivial rfl hgP hBA fun c' ctv h' tk hx hge hlt hrec htb => ?_
  refine kws_nil ?_
  obtain ⟨c2, oc, vs2, t2, ec, goc, hd2, hv2⟩ := id hrec
  cases ec
  have ncP : c' ≠ P := Nat.ne_of_gt (Nat.lt_of_lt_of_le (Heap.lt_size gP) hge)
  refine run _ _ _ c' ctv (fun b o n e => Heap.get?_push_of_some _ (hx b o n e)) ?_ (Nat.ne_of_gt (Nat.lt_of_lt_of_le lL hge)) (Heap.get?_push_size _ rfl) ⟨c', oc, vs2, t2, rfl, Heap.get?_push_of_some _ goc, hd2, hv2⟩ fun h3 tk3 ns3 k3 => ?_
  ·exact Nat.ne_of_gt (Nat.lt_trans (Nat.lt_of_lt_of_le lL hge) hlt)
  ·refine ⟨_, Zc (c := c') (oc := oc) I1 hP hge (Nat.ne_of_gt (Nat.lt_of_lt_of_le lL hge)) hn ns3 (fun b o n1 n2 e => k3 b o n1 (Heap.get?_push_of_some _ (hx b o n2 e))) (k3 _ _ (Ne.symm nLP) (Heap.get?_push_of_some _ htb)) (k3 _ _ (Nat.ne_of_gt (Nat.lt_of_lt_of_le lL hge)) (Heap.get?_push_of_some _ goc)), .inr ⟨c', oc, _, vs2, t2, ?_, AQ, hd2, hv2⟩, fun b u n e => ?_⟩
   ·rw [AN (Ne.symm ncP), AQ]; rfl
   ·rw [AN (fun z => by rw [z, I1.hok.fresh hge] at e; cases e), AN n]; exact e
 ·-- a later call
  rw [hP] at e1; cases e1
  obtain ⟨g0, _⟩ := I1.hok c0 _ e2
  have n0L : c0 ≠ X.env.locals := fun z => by have := I1.free; rw [← z, e2] at this; cases this
  refine kla_makeFunctionHit (cv := .ref c0) (LO.clos _) I1.ok.glob hG LA.cd hCH gP ?_ ?_ hBA fun ctv h' tk hx hsz => ?_
  ·exact TriplesOk_snoc _ _ _ [] trivial
  ·exact codeAmong_snoc [] trivial rfl
  refine kws_nil ?_
  refine run _ _ _ c0 ctv (fun b o _ e => Heap.get?_push_of_some _ (hx b o e)) (Nat.ne_of_gt (Nat.lt_of_lt_of_le lL hsz)) n0L (Heap.get?_push_size _ rfl) ⟨c0, o0, vs0, t0, rfl, Heap.get?_push_of_some _ (hx _ _ g0), e3, e4⟩ fun h3 tk3 ns3 k3 => ?_
  exact ⟨H1, keptL I1 hn ns3 fun b o n e => k3 b o n (Heap.get?_push_of_some _ (hx b o e)), tb, fun _ _ _ e => e⟩
end
noncomputable def WY (T : Addr) (H : Hp) : Prop := H T = some (.tbl #[]) ∧ ∀ b, H b = none ∨ (∃ o xs, H b = some (.frz o (.lst xs))) ∨ b = T
theorem VJ {T : Addr} {P : Program} {w : World} {K : PySem.W.Frag} {mg mb : Str → Option Value} {CX : CXT} {k : Nat} {fa a : Addr} {fd : FuncData} {x : Str} {sp : Sp} {s₁ : Shared} {vs : List Value} {ns : List Int}
  (KX : K.In s₁.heap) (hT : s₁.heap.get? T = some (PySem.W.tabObj #[])) (isT : isCodeTable s₁.heap T) (hKT : K.lookup T = none) (hns : s₁.heap.Ns mainGlobals mg) (hb : s₁.heap.Ns builtinsNs mb) (hbb : ∀ x : Str, x ≠ "__name__" → mb x = bootBuiltins x) (hlim : s₁.heap.NoLimit) (hg : s₁.gens = #[])
  (ha : s₁.heap.get? a = some { cls := .type "list", data := .seq vs.toArray }) (hi : IntsAre vs ns) (hl : ns.length ≤ sizeLine) (hr : CJ k callerA)
  (F : ∀ base : Heap, K.In base → base.Ns mainGlobals mg → Ao P w K mg base CX k fa fd [x] sp) (hbind : ∀ (s : Shared) (u : Value), BindsTo s fd ⟨[u], []⟩ [(x, u)])
  (hsp : ∀ H : Hp, WY T H → SqL K H a (ns.map V.int) → sp [.ref a] H (fun v _ => v = .bl true) fun _ _ _ => False)
  (hCX : ∀ H e s', CX [] H s₁ (fun _ _ _ => False) e s' → False) :
  codeAny (model P w) callerA (.call (.ref fa) ⟨[.ref a], []⟩) (fun r s' => r = .ok (.ret (.bool true)) ∧ OldK s₁.heap s'.heap ∧ s'.os = s₁.os ∧ AllBare s'.gens) s₁ := by
 have rv := Pw hi
 have lenV := hi.length
 have core : ∀ H : Hp, WY T H → SqL K H a (ns.map V.int) → HOk P w H s₁.heap → (∀ b, H b ≠ none → b = a ∨ b = T) → (H a ≠ none → K.lookup a = none) →
   codeAny (model P w) callerA (.call (.ref fa) ⟨[.ref a], []⟩) (fun r s' => r = .ok (.ret (.bool true)) ∧ OldK s₁.heap s'.heap ∧ s'.os = s₁.os ∧ AllBare s'.gens) s₁ := by
  intro H hO hS hok hA hK
  have base_of : ∀ {b : Addr} {o : Obj}, s₁.heap.get? b = some o → H b = none → (RC s₁.heap H).get? b = some o := fun e n => V0 e n
  have noA : ∀ {b : Addr} {o : Obj} {es : Array DictEntry} {ep : Nat}, s₁.heap.get? b = some o → o.data = .dict es ep → H b = none := fun {b o es ep} e d => by
   cases q : H b with
   | none => rfl
   | some u =>
    rcases hA b (by rw [q]; simp) with e' | e'
    ·subst e'
     rw [ha] at e; cases e
     have d' : Data.seq vs.toArray _ = Data.dict es ep := d
     cases d'
    ·subst e'
     rw [hT] at e; cases e
     have d' : Data.fields _ = Data.dict es ep := d
     cases d'
  have nsK : ∀ {b : Addr} {m : Str → Option Value}, s₁.heap.Ns b m → (RC s₁.heap H).Ns b m := fun {b m} ⟨o, es, ep, e, d, r⟩ => ⟨o, es, ep, base_of e (noA e d), d, r⟩
  have hKb : K.In (RC s₁.heap H) := fun b o e => base_of (KX b o e) (by
   cases q : H b with
   | none => rfl
   | some u =>
    rcases hA b (by rw [q]; simp) with e' | e'
    ·subst e'
     rw [hK (by rw [q]; simp)] at e; cases e
    ·subst e'
     rw [hKT] at e; cases e)
  have hM : Mod K mg (RC s₁.heap H) := ⟨hKb, nsK hns, ⟨mb, nsK hb, hbb⟩, let ⟨mc, h1, h2⟩ := hlim; ⟨mc, nsK h1, h2⟩⟩
  have e0 : Tc P w K mg (RC s₁.heap H) callerA [] s₁ H := ⟨rfl, hM, fun b o e => W1 e, Nat.le_of_eq (VB _ _), trivial, fun b hb => absurd (show b ∈ ([] : List Addr) from hb) (by simp), hok, .of_eq hg⟩
  refine codeAny_mono ((F _ hKb (nsK hns)).run callerA [] s₁ H ⟨[.ref a], []⟩ [.ref a] [.ref a] _ _ hr e0 (hbind s₁ (.ref a)) (.cons rfl .nil) (hsp H hO hS)) fun r s' h => ?_
  cases r with
  | error e => exact (hCX H e s' h).elim
  | ok fl =>
   cases fl with
   | next => exact False.elim h
   | brk => exact False.elim h
   | cont => exact False.elim h
   | ret u =>
    obtain ⟨v, H', os, bare, un, hok', r', q⟩ := h
    have q' : v = .bl true := q
    subst q'
    obtain rfl : u = Value.bool true := r'
    refine ⟨rfl, ⟨fun b o e => ?_, fun b o e => un.there b o e (by simp)⟩, os, bare⟩
    cases q : H b with
    | none => exact .inl (un.keep b o e q (by intro z; exact absurd (show b ∈ ([] : List Addr) from z) (by simp)) (by simp))
    | some u =>
     rcases hO.2 b with z | ⟨ob, xs, z⟩ | z
     ·rw [q] at z; cases z
     ·have z2 := un.frzs b ob _ z
      obtain ⟨e1, _⟩ := hok b _ z
      obtain ⟨e2, _⟩ := hok' b _ z2
      rw [e] at e1; cases e1
      exact .inl e2
     ·subst z
      obtain ⟨more, z2⟩ := un.tbls b _ hO.1
      have e2 : s'.heap.get? b = some { cls := .none, data := .fields (#[] ++ more) } := hok' b _ z2
      rw [hT] at e; cases e
      exact .inr (.inl ⟨isT, rfl, #[], more, rfl, e2⟩)
 have naT : a ≠ T := fun z => by rw [z, hT] at ha; cases ha
 cases hk : K.lookup a with
 | some o =>
  have e := KX a o hk
  rw [ha] at e
  cases e
  refine core (fun b => if b = T then some (.tbl #[]) else none) ⟨if_pos rfl, fun b => ?_⟩ (.inr ⟨_, vs.toArray, _, hk, rfl, rfl, rfl, by rw [List.size_toArray, lenV]; exact hl, by simpa using rv⟩) (fun b u z => ?_) (fun b z => ?_) fun z => absurd (if_neg naT) z
  ·by_cases hb : b = T
   ·exact .inr (.inr hb)
   ·exact .inl (if_neg hb)
  ·by_cases hb : b = T
   ·have z' := (if_pos hb).symm.trans z
    cases z'
    subst hb
    exact hT
   ·have z' := (if_neg hb).symm.trans z
    cases z'
  ·by_cases hb : b = T
   ·exact .inr hb
   ·exact absurd (if_neg hb) z
 | none =>
  refine core (fun b => if b = T then some (.tbl #[]) else if b = a then some (.frz { cls := .type "list", data := .seq vs.toArray } (.lst (ns.map V.int))) else none) ⟨if_pos rfl, fun b => ?_⟩ (.inl (.inr ⟨{ cls := .type "list", data := .seq vs.toArray }, (if_neg naT).trans (if_pos rfl)⟩)) (fun b u z => ?_) (fun b z => ?_) fun _ => hk
  ·by_cases hb : b = T
   ·exact .inr (.inr hb)
   ·by_cases hb2 : b = a
    ·exact .inr (.inl ⟨_, _, (if_neg hb).trans (if_pos hb2)⟩)
    ·exact .inl ((if_neg hb).trans (if_neg hb2))
  ·by_cases hb : b = T
   ·have z' := (if_pos hb).symm.trans z
    cases z'
    subst hb
    exact hT
   ·by_cases hb2 : b = a
    ·have z' := ((if_neg hb).trans (if_pos hb2)).symm.trans z
     cases z'
     subst hb2
     exact ⟨ha, by rw [List.length_map]; exact hl, vs, _, rv, ha⟩
    ·have z' := ((if_neg hb).trans (if_neg hb2)).symm.trans z
     cases z'
  ·by_cases hb : b = T
   ·exact .inr hb
   ·by_cases hb2 : b = a
    ·exact .inl hb2
    ·exact absurd ((if_neg hb).trans (if_neg hb2)) z
theorem Fun.okL {P : Program} {w : World} {K : PySem.W.Frag} {mg : Str → Option Value} {base : Heap} {x qual : Str} {st : Stmt} {f c T : Addr} {fd : FuncData} {N ps : List Str} {k : Nat} {sp : Sp} (F : Fun K x qual st f fd) (L : Sn K mg fd.code c T) (S : AO N ps (AG st)) (len : ∀ vs H Q E, sp vs H Q E → vs.length = ps.length)
  (hbody : ∀ (cdv : Value) (A : Around) (outer : List Env) (s : Shared) (H : Hp) (vs : List V) (Q : VK) (E : XK), Sn K mg cdv c T → CJ k (A.deeper (envOfC qual (AG st) s.heap.objs.size f cdv)) → sp vs H Q E →
   ∃ t, PSs (Fd CX0 P w K mg base N qual (AG st) f cdv A outer s H E).nox (BR st) t ∧ t { nx := fun _ H' => Q .non H', rt := Q } (start N vs) H) : Ao P w K mg base CX0 (k + 1) f fd ps sp := by
 obtain ⟨oc, od, kV, doc, pm, an, cdv, ct, osl, rfl, lk, hcd⟩ := F.ex
 refine UE lk hcd S len fun A outer s H vs Q E hr hsp => ?_
 obtain ⟨t, h, q⟩ := hbody cdv A outer s H vs Q E L hr hsp
 exact ⟨t, h.nox, q⟩
noncomputable def Hh : Option Obj → Bool
 | some ⟨.none, none, .fields vs, sl⟩ => Nat.beq vs.size 0 && Nat.beq sl.size 0
 | _ => false
theorem Wf {o : Option Obj} (h : Hh o = true) : o = some (PySem.W.tabObj #[]) := by
 unfold Hh at h
 split at h
 ·rename_i vs sl
  obtain ⟨h1, h2⟩ := Bool.and_eq_true_iff.mp h
  have e1 : vs = #[] := Array.eq_empty_of_size_eq_zero (Nat.eq_of_beq_eq_true h1)
  have e2 : sl = #[] := Array.eq_empty_of_size_eq_zero (Nat.eq_of_beq_eq_true h2)
  rw [e1, e2]
 ·cases h
noncomputable def hdOk (vs : Array Value) (T : Addr) : Bool := match (vs[11]? : Option Value), vs.getD 18 .none, vs.getD 7 .none, vs.getD 9 .none, vs.getD 10 .none with
 | some (.ref P), .str _ _, .int _ _, .bool _, .int _ _ => Nat.beq P T
 | _, _, _, _, _ => false
noncomputable def Vr (K : PySem.W.Frag) (c T : Addr) : Bool := match K.lookup c with
 | some ⟨.type t, _, .fields vs, _⟩ => t == "code" && (hdOk vs T && !(Nat.beq c T))
 | _ => false
theorem Rl {K : PySem.W.Frag} {c T : Addr} (h : Vr K c T = true) (h' : Heap) (X : K.In h') : PySem.W.CodeHd h' c T ∧ isCodeTable h' T := by
 unfold Vr at h
 split at h
 ·rename_i t dd vs sl e
  obtain ⟨h1, h2⟩ := Bool.and_eq_true_iff.mp h
  obtain ⟨h3, h4⟩ := Bool.and_eq_true_iff.mp h2
  obtain rfl : t = "code" := beq_iff_eq.mp h1
  unfold hdOk at h3
  split at h3
  ·rename_i P file tf flags tg inF text tt e11 e18 e7 e9 e10
   obtain rfl : P = T := Nat.eq_of_beq_eq_true h3
   refine ⟨⟨_, vs, file, tf, flags, tg, inF, text, tt, X _ _ e, rfl, rfl, e11, ?_, e18, e7, e9, e10, ?_⟩, ⟨c, _, vs, X _ _ e, rfl, rfl, e11⟩⟩
   ·rw [Array.getD_eq_getD_getElem?, e11]; rfl
   ·intro z
    rw [z, Nat.beq_refl] at h4
    cases h4
  ·cases h3
 ·cases h
noncomputable def cB (K : PySem.W.Frag) : Bool := match PySem.W.nsIn K mainGlobals "__builtins__" with
 | some (some (.ref bm)) => !(Nat.beq bm builtinsNs) && (!(Nat.beq bm mainGlobals) && (match K.lookup bm with
  | some ⟨.type t, some d, .plain, _⟩ => t == "module" && Nat.beq d builtinsNs
  | _ => false))
 | _ => false
theorem Wz {K : PySem.W.Frag} {h : Heap} {mg : Str → Option Value} (X : K.In h) (G : h.Ns mainGlobals mg) (e : cB K = true) (h' : Heap) (X' : K.In h') :
  ∃ bm o, mg "__builtins__" = some (.ref bm) ∧ bm ≠ builtinsNs ∧ bm ≠ mainGlobals ∧ h'.get? bm = some o ∧ o.cls = .type "module" ∧ o.dict = some builtinsNs ∧ o.data = .plain := by
 unfold cB at e
 split at e
 ·rename_i bm eb
  obtain ⟨h1, h2⟩ := Bool.and_eq_true_iff.mp e
  obtain ⟨h3, h4⟩ := Bool.and_eq_true_iff.mp h2
  split at h4
  ·rename_i t d sl el
   obtain ⟨h5, h6⟩ := Bool.and_eq_true_iff.mp h4
   obtain rfl : t = "module" := beq_iff_eq.mp h5
   obtain rfl : d = builtinsNs := Nat.eq_of_beq_eq_true h6
   refine ⟨bm, _, PySem.W.mg_of X G eb, ?_, ?_, X' _ _ el, rfl, rfl, rfl⟩
   ·intro z; rw [z, Nat.beq_refl] at h1; cases h1
   ·intro z; rw [z, Nat.beq_refl] at h3; cases h3
  ·cases h4
 ·cases e
noncomputable def Zq (K : PySem.W.Frag) (x : Str) (T : Addr) : Bool := match PySem.W.nsIn K mainGlobals x with
 | some (some (.ref f)) => match K.lookup f with
  | some ⟨_, _, .func fd, _⟩ => match fd.code with
   | .ref c => Vr K c T && cB K
   | _ => false
  | _ => false
 | _ => false
theorem XI {K : PySem.W.Frag} {h : Heap} {mg : Str → Option Value} {x : Str} {st : Stmt} {T f : Addr} {fd : FuncData} {ps : List Str} (X : K.In h) (G : h.Ns mainGlobals mg) (D : L2.D K mg x st ps f fd) (e : Zq K x T = true) : ∃ c, Sn K mg fd.code c T ∧ ∀ h', K.In h' → isCodeTable h' T := by
 unfold Zq at e
 split at e
 ·rename_i f' ef
  have e1 := PySem.W.mg_of X G ef
  rw [D.m] at e1; cases e1
  obtain ⟨oc, od, kV, doc, pm, an, cdv, ct, osl, rfl, lk, hcd⟩ := D.F.ex
  rw [lk] at e
  dsimp only at e
  cases cdv with
  | ref c =>
   obtain ⟨h1, h2⟩ := Bool.and_eq_true_iff.mp e
   exact ⟨c, ⟨rfl, fun h' X' => (Rl h1 h' X').1, fun h' X' => Wz X G h2 h' X'⟩, fun h' X' => (Rl h1 h' X').2⟩
  | _ => cases e
 ·cases e
theorem Wx {as : List Addr} {h : Heap} {T : Addr} (n : T ∉ as) : (TG.Kof as h).lookup T = none := by
 induction as with
 | nil => rfl
 | cons b r ih =>
  simp only [TG.Kof, List.filterMap_cons]
  have nb : T ≠ b := fun z => n (by rw [z]; exact List.mem_cons_self)
  cases hb : h.get? b with
  | none => exact ih fun z => n (List.mem_cons_of_mem _ z)
  | some ob =>
   simp only [Option.map_some, List.lookup, beq_eq_false_iff_ne.mpr nb]
   exact ih fun z => n (List.mem_cons_of_mem _ z)
noncomputable def LY {β : Type} (T : Addr) (as : List Addr) (obs : PySem.W.Frag → β) (v : β) (_ : World) (h : Heap) : Prop := ∃ K : PySem.W.Frag, K.In h ∧ K.lookup T = none ∧ h.get? T = some (PySem.W.tabObj #[]) ∧ obs K = v
theorem LY.of {β : Type} {T : Addr} {as : List Addr} {obs : PySem.W.Frag → β} {v : β} (n : T ∉ as) (w : World) (s : Shared) (e : (Hh (s.heap.get? T), obs (TG.Kof as s.heap)) = (true, v)) : LY T as obs v w s.heap :=
 ⟨_, TG.aS _ _, Wx n, Wf (Prod.mk.inj e).1, (Prod.mk.inj e).2⟩
theorem LY.keeps {β : Type} {T : Addr} {as : List Addr} {obs : PySem.W.Frag → β} {v : β} (w : World) (h h' : Heap) (x : LY T as obs v w h) (k : ∀ b o, h.get? b = some o → h'.get? b = some o) : LY T as obs v w h' := x.imp fun _ z => ⟨z.1.keeps k, z.2.1, k _ _ z.2.2.1, z.2.2.2⟩
theorem Vk {β : Type} {T : Addr} {as : List Addr} {obs : PySem.W.Frag → β} (s : SharedT) : (Hh (s.abs.heap.get? T), obs (TG.Kof as s.abs.heap)) = (Hh (TG.Th s.tree s.n T), obs (TG.Uw as s)) := by
 rw [TG.W7]
 show (Hh ((absHeap s.tree s.n s.life).get? T), _) = _
 rw [TG.UL]
theorem V2 {l : PySem.W.OpenLaw} {n k : Nat} {q : Program} {loose : List Str} {XP : (Str → Option Value) → Heap → Prop} {β : Type} {T : Addr} {as : List Addr} {obs : PySem.W.Frag → β} {v : β} {d : DefRec} {CX : CXT} {sp : PySem.W.Frag → Sp} {x : Str}
  (hn : l.most = some n) (hn2 : n ≤ sizeLine) (hdf : d.params.defaults = []) (hr : CJ k callerA)
  (F : ∀ (w : World) (mg : Str → Option Value) (fa : Addr) (h : Heap) (K : PySem.W.Frag), obs K = v → K.In h → h.Ns mainGlobals mg → mg d.name = some (.ref fa) →
   ∃ fd : FuncData, (∀ (s : Shared) (u : Value), BindsTo s fd ⟨[u], []⟩ [(x, u)]) ∧ (∀ h', K.In h' → isCodeTable h' T) ∧
    ∀ base : Heap, K.In base → base.Ns mainGlobals mg → Ao l.prog w K mg base CX k fa fd [x] (sp K))
  (hsp : ∀ (K : PySem.W.Frag) (H : Hp) (a : Addr) (ns : List Int), ns.length ≤ n → WY T H → SqL K H a (ns.map V.int) → sp K [.ref a] H (fun v _ => v = .bl true) fun _ _ _ => False)
  (hCX : ∀ (H : Hp) (s : Shared) (e : Value) (s' : Shared), CX [] H s (fun _ _ _ => False) e s' → False) :
  PySem.W.WalkO q loose XP (LY T as obs v) l.row.toRowW d [] (fun f vs => PySem.call f vs) := by
 refine Att.attach_call hn hdf fun w s₀ s₁ mg mb fa o pm cd doc a vs ns G Y ho hd hcd hmg hobj hints hlen hg => ?_
 obtain ⟨K, KX, KT, hT, KO⟩ := Y
 obtain ⟨fd, hb, isT, hF⟩ := F w mg fa _ K KO KX G.T.g hmg
 exact VJ KX hT (isT _ KX) KT G.T.g G.T.b G.T.builtins G.T.nolimit hg hobj hints (Nat.le_trans hlen hn2) hr hF hb (fun H hO hS => hsp K H a ns hlen hO hS) fun H e s' => hCX H s₁ e s'
end LM
namespace TG
open PySem L2
theorem Paired.at {α β : Type} {F : α → β → Prop} : ∀ {l : List α} {r : List β} {i : Nat} {x : α}, Paired F l r → l[i]? = some x → ∃ y, r[i]? = some y ∧ F x y
 | _, _, i, x, .nil, h => by simp at h
 | _, _, 0, x, .cons h1 _, h => by simp at h; subst h; exact ⟨_, rfl, h1⟩
 | _, _, i + 1, x, .cons _ t, h => by
  obtain ⟨y, h2, h3⟩ := Paired.at (i := i) (x := x) t (by simpa using h)
  exact ⟨y, by simpa using h2, h3⟩
theorem VN {β : Type} {K : PySem.W.Frag} {a : Addr} {as : List Addr} {bs : List β} {te : TE} {caps : St} {D : Addr} {H1 : Hp} {Q : Hp → Prop} (E : Hp → Addr → β → Prop) (es : ∀ H H' v b, AI H H' → E H v b → E H' v b)
  (F : Hp → V → Addr → β → Prop) (fs : ∀ H H' v q b, AI H H' → F H v q b → F H' v q b) (fd : ∀ H v q b xs ys, H D = some (.lst xs) → H1 D = none → F H v q b → F (L2.upd H D (.lst ys)) v q b)
  (hl : SqL K H1 a (as.map V.ref)) (pr0 : Paired (E H1) as bs) (hD : H1 D = none) (hz : as.length ≤ 1000)
  (he : ∀ q b H (R : VK), b ∈ bs → AI H1 H → (H D ≠ none) → E H q b → (∀ y H', AI H H' → F H' y q b → R y H') → te (some (.ref q) :: caps) H R)
  (hd : ∀ H ys, AI H1 H → H D = some (.lst ys) → ys.length = as.length → (∀ (i : Nat) (y : V), ys[i]? = some y → ∃ q b, as[i]? = some q ∧ bs[i]? = some b ∧ F H y q b) → Q H) : Gr te G8 caps (Itl K a) D H1 Q := by
 refine Px (xs := as.map V.ref) (fun i ys H => AI H1 H ∧ H D = some (.lst ys) ∧ ∀ (j : Nat) (y : V), ys[j]? = some y → ∃ q b, as[j]? = some q ∧ bs[j]? = some b ∧ F H y q b) ⟨A4 hD, AQ, fun j y z => by simp at z⟩ (fun _ _ H _ ⟨s1, _⟩ => s1.seq hl) ?_ ?_
 ·rintro i x ys H hx hy ⟨s1, e1, pr⟩
  have hi : i < as.length := by
   have := (List.getElem?_eq_some_iff.mp hx).1
   rwa [List.length_map] at this
  have hq := List.getElem?_eq_getElem hi
  obtain ⟨b, hb, eb⟩ := Paired.at pr0 hq
  have ex : x = V.ref as[i] := by
   rw [List.getElem?_map, hq] at hx
   exact (Option.some.inj hx).symm
  subst ex
  refine he as[i] b H _ (List.mem_of_getElem? hb) s1 (by rw [e1]; simp) (es _ _ _ _ s1 eb) fun y H' s2 fy => ?_
  refine Sc.of (by rw [List.length_map, PySem.sizeLine_eq]; lia) (by rw [List.length_map]; exact hi) hy (s2.get e1) ⟨(s1.trans s2).updFresh hD, AQ, fun j z hz' => ?_⟩
  by_cases hj : j < ys.length
  ·rw [List.getElem?_append_left hj] at hz'
   obtain ⟨q, b', h1, h2, h3⟩ := pr j z hz'
   exact ⟨q, b', h1, h2, fd _ _ _ _ _ _ (s2.get e1) hD (fs _ _ _ _ _ s2 h3)⟩
  ·have hj2 : j = ys.length := by
    have := (List.getElem?_eq_some_iff.mp hz').1
    rw [List.length_append] at this
    simp at this
    lia
   subst hj2
   rw [List.getElem?_append_right (Nat.le_refl _), Nat.sub_self] at hz'
   cases hz'
   rw [hy]
   exact ⟨_, b, hq, hb, fd _ _ _ _ _ _ (s2.get e1) hD fy⟩
 ·rintro ys H hy ⟨s1, e1, pr⟩
  exact hd H ys s1 e1 (by rw [hy, List.length_map]) pr
theorem Dw {H H' : Hp} {P : Addr} {pos : Pos} {qual : Str} (h : LM.Tbl H P pos qual) (s : AI H H') : LM.Tbl H' P pos qual := by
 rcases h with h | ⟨c, o, u, vs, t, h1, h2, h3⟩
 ·exact .inl (s.get h)
 ·exact .inr ⟨c, o, u, vs, t, s.get h1, s.get h2, h3⟩
noncomputable def Oe (T : Addr) (H H' : Hp) : Prop := ∀ b u, b ≠ T → H b = some u → H' b = some u
theorem Oe.get {T b : Addr} {H H' : Hp} {u : HO} {pos : Pos} {qual : Str} (s : Oe T H H') (tb : LM.Tbl H T pos qual) (e : H b = some u) (n : ∀ ps, u ≠ .tbl ps) : H' b = some u := s b u (fun z => by
 obtain ⟨ps, h⟩ := tb.tab
 rw [z, h] at e
 exact n ps (Option.some.inj e).symm) e
theorem Bch.sameT {C T : Addr} {H H' : Hp} {b S P : Addr} {ow : List Addr} {gs : List G} {past : List (List G)} {pos : Pos} {qual : Str} (h : Bch C H b S P ow gs past) (s : Oe T H H') (tb : LM.Tbl H T pos qual) : Bch C H' b S P ow gs past :=
 h.keep fun a u ha e => by
  rcases ha with z | z | ⟨xs, z⟩
  ·obtain ⟨dx, eb⟩ := h.at_
   rw [z, eb] at e
   cases e
   rw [z]
   exact s.get tb eb fun _ z => by cases z
  ·obtain ⟨xs, ea⟩ := h.lv a z
   rw [ea] at e
   cases e
   exact s.get tb ea fun _ z => by cases z
  ·rw [z] at e ⊢
   exact s.get tb e fun _ z => by cases z
theorem SS {ow ow' : List Addr} {H H' : Hp} {P : Addr} {pos : Pos} {qual : Str} (h : LM.Tbl H P pos qual) (k : Kept ow H H' ow') : LM.Tbl H' P pos qual := by
 rcases h with h | ⟨c, o, u, vs, t, h1, h2, h3⟩
 ·exact .inl (k.tbl _ _ h)
 ·exact .inr ⟨c, o, u, vs, t, k.tbl _ _ h1, k.frz _ _ _ h2, h3⟩
structure JD (ow : List Addr) (H H' : Hp) (ow' : List Addr) : Prop where
 tup : ∀ c xs, H c = some (.tup xs) → H' c = some (.tup xs)
 lst : ∀ c xs, c ∉ ow → H c = some (.lst xs) → H' c = some (.lst xs)
 frz : ∀ c o u, H c = some (.frz o u) → H' c = some (.frz o u)
 off : ∀ c ∈ ow', c ∈ ow ∨ H c = none
 live : ∀ c u, H c = some u → ∃ u', H' c = some u'
theorem Kept.w {ow ow' : List Addr} {H H' : Hp} (k : Kept ow H H' ow') : JD ow H H' ow' := ⟨k.tup, k.lst, k.frz, k.off, k.live⟩
theorem JD.trans {ow ow1 ow2 : List Addr} {H H1 H2 : Hp} (a : JD ow H H1 ow1) (b : JD ow1 H1 H2 ow2) : JD ow H H2 ow2 where
 tup := fun c xs e => b.tup c xs (a.tup c xs e)
 lst := fun c xs n e => b.lst c xs (fun z => by
  rcases a.off c z with z | z
  ·exact n z
  ·rw [z] at e; cases e) (a.lst c xs n e)
 frz := fun c o u e => b.frz c o u (a.frz c o u e)
 off := fun c h => by
  rcases b.off c h with z | z
  ·exact a.off c z
  ·refine .inr ?_
   cases q : H c with
   | none => rfl
   | some u => obtain ⟨u', e⟩ := a.live c u q; rw [z] at e; cases e
 live := fun c u e => let ⟨u', e'⟩ := a.live c u e; b.live c u' e'
theorem JD.same {ow ow1 : List Addr} {H H1 H2 : Hp} (a : JD ow H H1 ow1) (s : AI H1 H2) : JD ow H H2 ow1 := a.trans (Kept.of s).w
theorem Scr.keptW {K : PySem.W.Frag} {ow ow' : List Addr} {H H' : Hp} {a : Addr} {xs : List V} (h : Scr K ow H a xs) (k : JD ow H H' ow') : Scr K ow' H' a xs := by
 rcases h with ⟨h, n⟩ | ⟨o, h⟩ | h
 ·exact .inl ⟨k.lst _ _ n h, Tv k.off h n⟩
 ·exact .inr (.inl ⟨o, k.frz _ _ _ h⟩)
 ·exact .inr (.inr h)
end TG
namespace L2
open PySem PySem.Spec PyProof.Rows
section
variable {X : Cx}
end
end L2
namespace TG
open PySem L2
section
variable {T : Addr} {H H' : Hp} {pos : Pos} {qual : Str}
theorem A3.sameT {D : Addr} {gs : List G} (h : A3 H D gs) (s : Oe T H H') (tb : LM.Tbl H T pos qual) : A3 H' D gs := h.keep (fun _ e => s.get tb e fun _ z => by cases z) fun _ _ e => s.get tb e fun _ z => by cases z
theorem Wd.sameT {C : Addr} {b S P : Addr} {ow : List Addr} {gs : List G} {past : List (List G)} {D L : Addr} (h : Wd C H b S P ow gs past D L) (s : Oe T H H') (tb : LM.Tbl H T pos qual) : Wd C H' b S P ow gs past D L := by
 obtain ⟨ds, e, pr, n⟩ := h.pl
 exact ⟨h.bch.sameT s tb, h.dk.sameT s tb, ⟨ds, (s.get tb e fun _ z => by cases z), Paired.mapP pr fun _ _ q => q.sameT s tb, n⟩, h.po⟩
end
theorem RA {K : PySem.W.Frag} {a : Addr} {ns : List Int} {tc : TT} {caps : St} {D : Addr} {H1 : Hp} {Q : Hp → Prop} (P : Int → Bool) (hl : SqL K H1 a (ns.map V.int)) (hD : H1 D = none) (hz : ns.length ≤ 1000)
  (ht : ∀ n H (R : Bool → Hp → Prop), n ∈ ns → AI H1 H → R (P n) H → tc (some (.int n) :: caps) H R)
  (hd : ∀ H, AI H1 H → H D = some (.lst ((ns.filter P).map V.int)) → Q H) : Gr (L0 0) tc caps (Itl K a) D H1 Q := by
 refine CA (xs := ns.map V.int) (fun i ys H => ys = ((ns.take i).filter P).map V.int ∧ AI H1 H ∧ H D = some (.lst ys)) ⟨rfl, A4 hD, AQ⟩ (fun _ _ H _ ⟨_, s1, _⟩ => s1.seq hl) ?_ ?_
 ·rintro i x ys H hx ⟨rfl, s1, e1⟩
  have hi : i < ns.length := by
   have := (List.getElem?_eq_some_iff.mp hx).1
   rwa [List.length_map] at this
  have ex : x = V.int ns[i] := by
   rw [List.getElem?_map, List.getElem?_eq_getElem hi] at hx
   exact (Option.some.inj hx).symm
  subst ex
  have et : ns.take (i + 1) = ns.take i ++ [ns[i]] := List.take_succ_eq_append_getElem hi
  have hlen : (ns.map V.int).length = ns.length := List.length_map ..
  have hf := List.length_filter_le P (ns.take i)
  rw [List.length_take] at hf
  refine ht ns[i] H _ (List.getElem_mem hi) s1 ?_
  by_cases hp : P ns[i] = true
  ·rw [if_pos hp]
   refine ⟨_, rfl, e1, by rw [List.length_map, PySem.sizeLine_eq]; lia, _, by lia, rfl, by lia, ?_, s1.updFresh hD, ?_⟩
   ·rw [et, List.filter_append, List.filter_cons, if_pos hp, List.filter_nil, List.map_append]; rfl
   ·exact AQ
  ·rw [if_neg hp]
   refine ⟨_, by lia, rfl, by lia, ?_, s1, e1⟩
   rw [et, List.filter_append, List.filter_cons, if_neg hp, List.filter_nil, List.append_nil]
 ·rintro ys H ⟨rfl, s1, e1⟩
  rw [List.length_map, List.take_length] at e1
  exact hd H s1 e1
theorem WC {pre post : List G} {r : Run} (ha : Asc (pre ++ (r.all ++ post))) : (pre ++ (r.all ++ post)).filter (fun g => decide (r.g.p ≤ g.p) && decide (g.p ≤ r.last.p)) = r.all := by
 have hc : ∀ g ∈ r.all ++ post, r.g.p ≤ g.p := fun g hg => by
  have h2 := (List.pairwise_append.mp ha).2.1
  rw [List.cons_append] at h2 hg
  rcases List.mem_cons.mp hg with z | z
  ·rw [z]; lia
  ·have := (List.pairwise_cons.mp h2).1 g z
   lia
 rw [List.filter_append, List.filter_eq_nil_iff.mpr, List.nil_append, List.filter_congr (q := fun g => decide (g.p ≤ r.last.p)), TU ha]
 ·intro g hg
  rw [decide_eq_true (hc g hg), Bool.true_and]
 ·intro g hg z
  have h1 := (List.pairwise_append.mp ha).2.2 g hg r.g (by simp [Run.all])
  have := of_decide_eq_true (Bool.and_eq_true_iff.mp z).1
  lia
theorem O6 {gs : List G} (f : Int → Bool) : (AU gs).filter f = AU (gs.filter fun g => f g.p) := by
 unfold AU
 rw [List.filter_map]
 rfl
end TG
namespace L2
open PySem PySem.Spec PyProof.Rows
section
variable {X : Cx} {CX : CXT} {k n : Nat} {f C : Addr} {fd : FuncData} {ps N : List Str} {sp : Sp} {E : XK} {x : Str} {p pos apos : Pos} {e : Expr} {es : List Expr} {t : TA} {st : Stmt} {a b : Expr} {ta tb te : TE} {r : R2}
theorem pcl (d : D X.K X.mg x st ps f fd) (F : Ao X.prog X.w X.K X.mg X.base CX k f fd ps sp) (hr : CJ n X.A) (hx : En CX X E) (ha : PA X (e :: es) t) (hk : k ≤ n := by decide) (hg : Gl X x := by rfl) (hdb : (x == ("__debug__" : Str)) = false := by decide)
  (he : starEach (e :: es) X.env = (false, eval e X.env) :: starEach es X.env := by rfl) (hpl : (backTo pos (starEach es X.env)).any (·.1) = false := by rfl) : PE X (.Call (.Name x p) (e :: es) [] pos) (HM sp [] E t) := W4 F (hr.mono hk) hg d.m d.F.kp d.b .nil hx ha hdb he hpl
theorem pst (i : Nat) {sc : Scope} {pos' : Pos} (S : AO X.N ps sc) (he : PE X e te) (hi : X.N[i]? = some x := by rfl) (hx : Loc X.env.scope x := by first | exact Or.inl rfl | exact Or.inr rfl) (hs : swapsWith e (some (.Name x pos')) pos.line X.env = pure false := by rfl)
  (hf : X.fn x = true ∨ X.env.scope.names.lookup x = some .local := by first | exact .inl rfl | exact .inr rfl | assumption) : PS X (.Assign [.Name x pos'] e pos) (OQ te (EM i)) := Zo S.nd hi hx he hs hf
theorem pgn (i : Nat) {sc : Scope} (S : AO X.N ps sc) (hi : X.N[i]? = some x := by rfl) (hx : Loc X.env.scope x := by first | exact Or.inl rfl | exact Or.inr rfl) (hf : X.fn x = true ∨ X.env.scope.names.lookup x = some .local := by first | exact .inl rfl | exact .inr rfl | assumption) : PG X (.Name x pos) (EM i) := UH S.nd hi hx hf
theorem pxi (hr : IxR X r) (ha : PE X a ta) (hb : PE X b tb) (hs : UA b := by exact fun _ _ => rfl) : PE X (.Subscript a b pos) (tOp r ta tb) := Wj hr ha hb hs
theorem pec {op : CmpOp} (ho : OpR X (compareOp op) r) (ha : PE X a ta) (hb : PE X b tb) (hm : behindInMarks op b = false := by exact Wh _) : PE X (.Compare a [op] [b] pos) (tOp r ta tb) := UT ho ha hb hm
theorem ptc {op : CmpOp} (ho : OpR X (compareOp op) r) (ha : PE X a ta) (hb : PE X b tb) (hm : behindInMarks op b = false := by exact Wh _) : PT X (.Compare a [op] [b] pos) (Hd (tOp r ta tb)) := UX ho ha hb hm
end
end L2
namespace TG
open PySem L2
noncomputable abbrev GT : Type := Str → Str → Str → Str → Str → Str → Str → Str → Str → Str → Str → Str → Str → Str → Str → Str → Str → Str → Str → Str → Str → Str → Str → Str → Str → Str → Str → Str → Str → Str → Str → Str → Str → Str → Str → Str → Str → Str → Str → Str → Str → Str → Str → Str → Str → Str → Str → Str → Str → Str → Str → Str → Str → Str → Str → Str → Str → Str → Str → Str → Str → Str → Str → Str → Str → Str → Str → Str → Str → Str → Str → Str → Str → Str → Str → Str → Str → Str → Str → Str → Str → Str → Str → Str → Str → Str → Str → Str → Str → Str → Str → Str → Str → Str → Str → Str → Str → Str → Str → Str → Str → Str → Str → Str → Str → Str → Str → Str → Str → Str → Str → Str → Str → Str → Str → Str → Str → Str → Str → Str → Str → Str → Str → Str → Str → Str → Str → Str → Str → Str → Str → Str → Str → Str → Str → Str → Str → Str → Str → Str → Str → Str → Str → Str → Str → Str → Str → Str → Str → Str → Str → Str → Str → Str → Str → Str → Str → Str → Str → Str → Str → Str → Str → Str → Str → Str → Str → Str → Str → Str → Str → Str → Str → Str → Str → Str → Str → Str → Str → Str → Str → Str → Str → Str → Str → Str → Str → Str → Str → Str → Str → Str → Str → Str → Str → Str → Str → Str → Str → Str → Str → Str → Str → Str → Str → Str → Str → Str → Str → Str → Str → Str → Str → Str → Str → Str → Str → Str → Str → Str → Str → Str → Str → Str → Str → Str → Str → Str → Str → Str → Str → Str → Str → Str → Str → Str → Str → Str → Str → Str → Str → Str → Str → Str → Str → Str → Str → Str → Str → Str → Str → Str → Str → Str → Str → Str → Str → Str → Str → Str → Program
noncomputable def EqA (p : Program) (G : GT) : Prop := p = G (.ofString "_law_by") (.ofString "_law_throw_here") (.ofString "_law_gate") (.ofString "_law_gap") (.ofString "_law_list") (.ofString "_law_found") (.ofString "_law_due") (.ofString "isinstance") (.ofString "list") (.ofString "len") (.ofString "_law_k") (.ofString "range") (.ofString "_law_whole") (.ofString "_law_standing") (.ofString "_law_stands") (.ofString "_law_place") (.ofString "sorted") (.ofString ".0") (.ofString "fast") (.ofString "_law_again") (.ofString "_law_beach") (.ofString "_law_places") (.ofString "_law_throw") (.ofString "_law_told") (.ofString "passed") (.ofString "_law_all_again") (.ofString "through") (.ofString "steepest") (.ofString "flattest") (.ofString "tuple") (.ofString "throw") (.ofString "law") (.ofString "_law_script") (.ofString "Beach") (.ofString "_law_past") (.ofString "_law_laid") (.ofString "_law_step") (.ofString "_law_deed") (.ofString "_law_picked") (.ofString "_law_count") (.ofString "_law_run") (.ofString "runs") (.ofString "_law_part") (.ofString "most") (.ofString "_law_how_here") (.ofString "_law_how") (.ofString "_law_mixed") (.ofString "_law_row") (.ofString "_law_spread") (.ofString "int") (.ofString "_law_word") (.ofString "put") (.ofString "lift") (.ofString "sink") (.ofString "take") (.ofString "back") (.ofString "_law_pool") (.ofString "_law_many") (.ofString "_law_kind") (.ofString "_law_one") (.ofString "_law_menu") (.ofString "_law_two") (.ofString "_law_line") (.ofString "_law_any_two") (.ofString "_law_foot") (.ofString "_law_head") (.ofString "_law_most") (.ofString "_law_chosen") (.ofString "_law_j") (.ofString "enumerate") (.ofString "_law_gcd") (.ofString "abs") (.ofString "_law_height") (.ofString "_law_kept") (.ofString "_law_deed_here") (.ofString "_law_kept_here") (.ofString "clear") (.ofString "update") (.ofString "pop") (.ofString "_law_would") (.ofString "append") (.ofString "dict") (.ofString "_law_refusal") (.ofString "_law_good") (.ofString "_law_done") (.ofString "") (.ofString "_law_numbers") (.ofString "_law_cell") (.ofString "_law_at") (.ofString "_law_gates") (.ofString "_law_draw") (.ofString "bool") (.ofString "get") (.ofString "out of bounds") (.ofString "nothing back") (.ofString "taken") (.ofString "no gate") (.ofString "upside down") (.ofString "max") (.ofString "beach full") (.ofString "deeds full") (.ofString "NoGate") (.ofString "Taken") (.ofString "UpsideDown") (.ofString "OutOfBounds") (.ofString "BeachFull") (.ofString "DeedsFull") (.ofString "NothingBack") (.ofString "__name__") (.ofString "law_throwgate_k45_whole_told_again") (.ofString "_law_left") (.ofString "_law_once") (.ofString "_law_heights") (.ofString "_law_wide") (.ofString "_law_low") (.ofString "_law_high") (.ofString "_law_under") (.ofString "_law_over") (.ofString "_law_at_here") (.ofString "_law_lows") (.ofString "_law_highs") (.ofString "_law_span") (.ofString "_law_near") (.ofString "_law_ends") (.ofString "_law_made") (.ofString "_law_used") (.ofString "_law_step_here") (.ofString "min") (.ofString "throwgate.beach") (.ofString "check_gate") (.ofString "gate") (.ofString "the foot would be above the head") (.ofString "number") (.ofString "LEAST") (.ofString "GREATEST") (.ofString "a place, foot or head would be out of bounds") (.ofString "check_places") (.ofString "places") (.ofString "BadList") (.ofString "the list has no place") (.ofString "MOST_GATES") (.ofString "the list has too many places") (.ofString "set") (.ofString "the list has a place twice") (.ofString "check_throw") (.ofString "BadThrow") (.ofString "a bottom is below 1") (.ofString "GREAT_NUMBER") (.ofString "a number of the throw is too great") (.ofString "__init__") (.ofString "self") (.ofString "standing") (.ofString "past") (.ofString "has_gate") (.ofString "place") (.ofString "gate_at") (.ofString "no gate stands at this place") (.ofString "do_deed") (.ofString "instead") (.ofString "MOST_DEEDS") (.ofString "no more deeds may stand") (.ofString "others") (.ofString "foot") (.ofString "head") (.ofString "a gate stands at this place already") (.ofString "no more gates may stand") (.ofString "foot_by") (.ofString "head_by") (.ofString "before") (.ofString "many") (.ofString "one deed is the least that is taken back") (.ofString "fewer deeds stand") (.ofString "left") (.ofString "gates") (.ofString "deeds") (.ofString "gates_at") (.ofString "two_gates_at") (.ofString "TooFew") (.ofString "one gate alone has no steepest and no flattest throw") (.ofString "throw_through") (.ofString "steepest_throw") (.ofString "flattest_throw") (.ofString "fewest_runs") (.ofString "SMALL_BEACH") (.ofString "WrongSize") (.ofString "the most are told of a small beach that is not empty") (.ofString "most_gates") (.ofString "places_passed") (.ofString "run_told") (.ofString "run") (.ofString "longer") (.ofString "longer_throw") (.ofString "common_throw") (.ofString "throwgate.small") (.ofString "tried_throws") (.ofString "ordered") (.ofString "throws") (.ofString "index") (.ofString "earlier") (.ofString "later") (.ofString "line_by") (.ofString "tried") (.ofString "key") (.ofString "told") (.ofString "found") (.ofString "steepest_found") (.ofString "bar_told") (.ofString "turned_over") (.ofString "turned_throw") (.ofString "throwgate.shore") (.ofString "tightest_pair") (.ofString "pair") (.ofString "compare") (.ofString "foot_to_head") (.ofString "foot_place") (.ofString "head_place") (.ofString "passes_all") (.ofString "level_throw") (.ofString "height") (.ofString "bar") (.ofString "first_three") (.ofString "passes") (.ofString "height_at") (.ofString "throwgate.lists") (.ofString "all") (.ofString "lowest") (.ofString "top") (.ofString "bottom") (.ofString "divisor") (.ofString "greatest_divisor") (.ofString "one") (.ofString "two") (.ofString "right") (.ofString "throwgate.lines") (.ofString "height_top") (.ofString "height_bottom") (.ofString "rise_top") (.ofString "rise_bottom") (.ofString "other") (.ofString "second") (.ofString "steps") (.ofString "gain") (.ofString "start") (.ofString "rise") (.ofString "side_of_line") (.ofString "end") (.ofString "barring") (.ofString "three") (.ofString "count") (.ofString "first") (.ofString "middle") (.ofString "last") (.ofString "throwgate.fracs") (.ofString "rest") (.ofString "next_rest") (.ofString "BeachError") (.ofString "throwgate.bars") (.ofString "throwgate.errors") (.ofString "ValueError") (.ofString "/claim/cut.py")
noncomputable def Gp : GT := by
 refine' (?m : _ → GT) (?h : EqA PySem.Challenge.pw_throwgate_k45_whole_told_again ?G)
 case h =>
  delta EqA PySem.Challenge.pw_throwgate_k45_whole_told_again
  iterate 260 (generalize Str.ofString _ = x)
  exact rfl
 case m => exact fun _ => ?G
theorem Gq : EqA PySem.Challenge.pw_throwgate_k45_whole_told_again Gp := by delta EqA; kernel_rfl
theorem at_0 : Str.ofString "_law_by" = Str.mk (.mk [95, 108, 97, 119, 95, 98, 121]) := by kernel_rfl
theorem at_1 : Str.ofString "_law_throw_here" = Str.mk (.mk [95, 108, 97, 119, 95, 116, 104, 114, 111, 119, 95, 104, 101, 114, 101]) := by kernel_rfl
theorem at_2 : Str.ofString "_law_gate" = Str.mk (.mk [95, 108, 97, 119, 95, 103, 97, 116, 101]) := by kernel_rfl
theorem at_3 : Str.ofString "_law_gap" = Str.mk (.mk [95, 108, 97, 119, 95, 103, 97, 112]) := by kernel_rfl
theorem at_4 : Str.ofString "_law_list" = Str.mk (.mk [95, 108, 97, 119, 95, 108, 105, 115, 116]) := by kernel_rfl
theorem at_5 : Str.ofString "_law_found" = Str.mk (.mk [95, 108, 97, 119, 95, 102, 111, 117, 110, 100]) := by kernel_rfl
theorem at_6 : Str.ofString "_law_due" = Str.mk (.mk [95, 108, 97, 119, 95, 100, 117, 101]) := by kernel_rfl
theorem at_7 : Str.ofString "isinstance" = Str.mk (.mk [105, 115, 105, 110, 115, 116, 97, 110, 99, 101]) := by kernel_rfl
theorem at_8 : Str.ofString "list" = Str.mk (.mk [108, 105, 115, 116]) := by kernel_rfl
theorem at_9 : Str.ofString "len" = Str.mk (.mk [108, 101, 110]) := by kernel_rfl
theorem at_10 : Str.ofString "_law_k" = Str.mk (.mk [95, 108, 97, 119, 95, 107]) := by kernel_rfl
theorem at_11 : Str.ofString "range" = Str.mk (.mk [114, 97, 110, 103, 101]) := by kernel_rfl
theorem at_12 : Str.ofString "_law_whole" = Str.mk (.mk [95, 108, 97, 119, 95, 119, 104, 111, 108, 101]) := by kernel_rfl
theorem at_13 : Str.ofString "_law_standing" = Str.mk (.mk [95, 108, 97, 119, 95, 115, 116, 97, 110, 100, 105, 110, 103]) := by kernel_rfl
theorem at_14 : Str.ofString "_law_stands" = Str.mk (.mk [95, 108, 97, 119, 95, 115, 116, 97, 110, 100, 115]) := by kernel_rfl
theorem at_15 : Str.ofString "_law_place" = Str.mk (.mk [95, 108, 97, 119, 95, 112, 108, 97, 99, 101]) := by kernel_rfl
theorem at_16 : Str.ofString "sorted" = Str.mk (.mk [115, 111, 114, 116, 101, 100]) := by kernel_rfl
theorem at_17 : Str.ofString ".0" = Str.mk (.mk [46, 48]) := by kernel_rfl
theorem at_18 : Str.ofString "fast" = Str.mk (.mk [102, 97, 115, 116]) := by kernel_rfl
theorem at_19 : Str.ofString "_law_again" = Str.mk (.mk [95, 108, 97, 119, 95, 97, 103, 97, 105, 110]) := by kernel_rfl
theorem at_20 : Str.ofString "_law_beach" = Str.mk (.mk [95, 108, 97, 119, 95, 98, 101, 97, 99, 104]) := by kernel_rfl
theorem at_21 : Str.ofString "_law_places" = Str.mk (.mk [95, 108, 97, 119, 95, 112, 108, 97, 99, 101, 115]) := by kernel_rfl
theorem at_22 : Str.ofString "_law_throw" = Str.mk (.mk [95, 108, 97, 119, 95, 116, 104, 114, 111, 119]) := by kernel_rfl
theorem at_23 : Str.ofString "_law_told" = Str.mk (.mk [95, 108, 97, 119, 95, 116, 111, 108, 100]) := by kernel_rfl
theorem at_24 : Str.ofString "passed" = Str.mk (.mk [112, 97, 115, 115, 101, 100]) := by kernel_rfl
theorem at_25 : Str.ofString "_law_all_again" = Str.mk (.mk [95, 108, 97, 119, 95, 97, 108, 108, 95, 97, 103, 97, 105, 110]) := by kernel_rfl
theorem at_26 : Str.ofString "through" = Str.mk (.mk [116, 104, 114, 111, 117, 103, 104]) := by kernel_rfl
theorem at_27 : Str.ofString "steepest" = Str.mk (.mk [115, 116, 101, 101, 112, 101, 115, 116]) := by kernel_rfl
theorem at_28 : Str.ofString "flattest" = Str.mk (.mk [102, 108, 97, 116, 116, 101, 115, 116]) := by kernel_rfl
theorem at_29 : Str.ofString "tuple" = Str.mk (.mk [116, 117, 112, 108, 101]) := by kernel_rfl
theorem at_30 : Str.ofString "throw" = Str.mk (.mk [116, 104, 114, 111, 119]) := by kernel_rfl
theorem at_31 : Str.ofString "law" = Str.mk (.mk [108, 97, 119]) := by kernel_rfl
theorem at_32 : Str.ofString "_law_script" = Str.mk (.mk [95, 108, 97, 119, 95, 115, 99, 114, 105, 112, 116]) := by kernel_rfl
theorem at_33 : Str.ofString "Beach" = Str.mk (.mk [66, 101, 97, 99, 104]) := by kernel_rfl
theorem at_34 : Str.ofString "_law_past" = Str.mk (.mk [95, 108, 97, 119, 95, 112, 97, 115, 116]) := by kernel_rfl
theorem at_35 : Str.ofString "_law_laid" = Str.mk (.mk [95, 108, 97, 119, 95, 108, 97, 105, 100]) := by kernel_rfl
theorem at_36 : Str.ofString "_law_step" = Str.mk (.mk [95, 108, 97, 119, 95, 115, 116, 101, 112]) := by kernel_rfl
theorem at_37 : Str.ofString "_law_deed" = Str.mk (.mk [95, 108, 97, 119, 95, 100, 101, 101, 100]) := by kernel_rfl
theorem at_38 : Str.ofString "_law_picked" = Str.mk (.mk [95, 108, 97, 119, 95, 112, 105, 99, 107, 101, 100]) := by kernel_rfl
theorem at_39 : Str.ofString "_law_count" = Str.mk (.mk [95, 108, 97, 119, 95, 99, 111, 117, 110, 116]) := by kernel_rfl
theorem at_40 : Str.ofString "_law_run" = Str.mk (.mk [95, 108, 97, 119, 95, 114, 117, 110]) := by kernel_rfl
theorem at_41 : Str.ofString "runs" = Str.mk (.mk [114, 117, 110, 115]) := by kernel_rfl
theorem at_42 : Str.ofString "_law_part" = Str.mk (.mk [95, 108, 97, 119, 95, 112, 97, 114, 116]) := by kernel_rfl
theorem at_43 : Str.ofString "most" = Str.mk (.mk [109, 111, 115, 116]) := by kernel_rfl
theorem at_44 : Str.ofString "_law_how_here" = Str.mk (.mk [95, 108, 97, 119, 95, 104, 111, 119, 95, 104, 101, 114, 101]) := by kernel_rfl
theorem at_45 : Str.ofString "_law_how" = Str.mk (.mk [95, 108, 97, 119, 95, 104, 111, 119]) := by kernel_rfl
theorem at_46 : Str.ofString "_law_mixed" = Str.mk (.mk [95, 108, 97, 119, 95, 109, 105, 120, 101, 100]) := by kernel_rfl
theorem at_47 : Str.ofString "_law_row" = Str.mk (.mk [95, 108, 97, 119, 95, 114, 111, 119]) := by kernel_rfl
theorem at_48 : Str.ofString "_law_spread" = Str.mk (.mk [95, 108, 97, 119, 95, 115, 112, 114, 101, 97, 100]) := by kernel_rfl
theorem at_49 : Str.ofString "int" = Str.mk (.mk [105, 110, 116]) := by kernel_rfl
theorem at_50 : Str.ofString "_law_word" = Str.mk (.mk [95, 108, 97, 119, 95, 119, 111, 114, 100]) := by kernel_rfl
theorem at_51 : Str.ofString "put" = Str.mk (.mk [112, 117, 116]) := by kernel_rfl
theorem at_52 : Str.ofString "lift" = Str.mk (.mk [108, 105, 102, 116]) := by kernel_rfl
theorem at_53 : Str.ofString "sink" = Str.mk (.mk [115, 105, 110, 107]) := by kernel_rfl
theorem at_54 : Str.ofString "take" = Str.mk (.mk [116, 97, 107, 101]) := by kernel_rfl
theorem at_55 : Str.ofString "back" = Str.mk (.mk [98, 97, 99, 107]) := by kernel_rfl
theorem at_56 : Str.ofString "_law_pool" = Str.mk (.mk [95, 108, 97, 119, 95, 112, 111, 111, 108]) := by kernel_rfl
theorem at_57 : Str.ofString "_law_many" = Str.mk (.mk [95, 108, 97, 119, 95, 109, 97, 110, 121]) := by kernel_rfl
theorem at_58 : Str.ofString "_law_kind" = Str.mk (.mk [95, 108, 97, 119, 95, 107, 105, 110, 100]) := by kernel_rfl
theorem at_59 : Str.ofString "_law_one" = Str.mk (.mk [95, 108, 97, 119, 95, 111, 110, 101]) := by kernel_rfl
theorem at_60 : Str.ofString "_law_menu" = Str.mk (.mk [95, 108, 97, 119, 95, 109, 101, 110, 117]) := by kernel_rfl
theorem at_61 : Str.ofString "_law_two" = Str.mk (.mk [95, 108, 97, 119, 95, 116, 119, 111]) := by kernel_rfl
theorem at_62 : Str.ofString "_law_line" = Str.mk (.mk [95, 108, 97, 119, 95, 108, 105, 110, 101]) := by kernel_rfl
theorem at_63 : Str.ofString "_law_any_two" = Str.mk (.mk [95, 108, 97, 119, 95, 97, 110, 121, 95, 116, 119, 111]) := by kernel_rfl
theorem at_64 : Str.ofString "_law_foot" = Str.mk (.mk [95, 108, 97, 119, 95, 102, 111, 111, 116]) := by kernel_rfl
theorem at_65 : Str.ofString "_law_head" = Str.mk (.mk [95, 108, 97, 119, 95, 104, 101, 97, 100]) := by kernel_rfl
theorem at_66 : Str.ofString "_law_most" = Str.mk (.mk [95, 108, 97, 119, 95, 109, 111, 115, 116]) := by kernel_rfl
theorem at_67 : Str.ofString "_law_chosen" = Str.mk (.mk [95, 108, 97, 119, 95, 99, 104, 111, 115, 101, 110]) := by kernel_rfl
theorem at_68 : Str.ofString "_law_j" = Str.mk (.mk [95, 108, 97, 119, 95, 106]) := by kernel_rfl
theorem at_69 : Str.ofString "enumerate" = Str.mk (.mk [101, 110, 117, 109, 101, 114, 97, 116, 101]) := by kernel_rfl
theorem at_70 : Str.ofString "_law_gcd" = Str.mk (.mk [95, 108, 97, 119, 95, 103, 99, 100]) := by kernel_rfl
theorem at_71 : Str.ofString "abs" = Str.mk (.mk [97, 98, 115]) := by kernel_rfl
theorem at_72 : Str.ofString "_law_height" = Str.mk (.mk [95, 108, 97, 119, 95, 104, 101, 105, 103, 104, 116]) := by kernel_rfl
theorem at_73 : Str.ofString "_law_kept" = Str.mk (.mk [95, 108, 97, 119, 95, 107, 101, 112, 116]) := by kernel_rfl
theorem at_74 : Str.ofString "_law_deed_here" = Str.mk (.mk [95, 108, 97, 119, 95, 100, 101, 101, 100, 95, 104, 101, 114, 101]) := by kernel_rfl
theorem at_75 : Str.ofString "_law_kept_here" = Str.mk (.mk [95, 108, 97, 119, 95, 107, 101, 112, 116, 95, 104, 101, 114, 101]) := by kernel_rfl
theorem at_76 : Str.ofString "clear" = Str.mk (.mk [99, 108, 101, 97, 114]) := by kernel_rfl
theorem at_77 : Str.ofString "update" = Str.mk (.mk [117, 112, 100, 97, 116, 101]) := by kernel_rfl
theorem at_78 : Str.ofString "pop" = Str.mk (.mk [112, 111, 112]) := by kernel_rfl
theorem at_79 : Str.ofString "_law_would" = Str.mk (.mk [95, 108, 97, 119, 95, 119, 111, 117, 108, 100]) := by kernel_rfl
theorem at_80 : Str.ofString "append" = Str.mk (.mk [97, 112, 112, 101, 110, 100]) := by kernel_rfl
theorem at_81 : Str.ofString "dict" = Str.mk (.mk [100, 105, 99, 116]) := by kernel_rfl
theorem at_82 : Str.ofString "_law_refusal" = Str.mk (.mk [95, 108, 97, 119, 95, 114, 101, 102, 117, 115, 97, 108]) := by kernel_rfl
theorem at_83 : Str.ofString "_law_good" = Str.mk (.mk [95, 108, 97, 119, 95, 103, 111, 111, 100]) := by kernel_rfl
theorem at_84 : Str.ofString "_law_done" = Str.mk (.mk [95, 108, 97, 119, 95, 100, 111, 110, 101]) := by kernel_rfl
theorem at_85 : Str.ofString "" = Str.mk (.mk []) := by kernel_rfl
theorem at_86 : Str.ofString "_law_numbers" = Str.mk (.mk [95, 108, 97, 119, 95, 110, 117, 109, 98, 101, 114, 115]) := by kernel_rfl
theorem at_87 : Str.ofString "_law_cell" = Str.mk (.mk [95, 108, 97, 119, 95, 99, 101, 108, 108]) := by kernel_rfl
theorem at_88 : Str.ofString "_law_at" = Str.mk (.mk [95, 108, 97, 119, 95, 97, 116]) := by kernel_rfl
theorem at_89 : Str.ofString "_law_gates" = Str.mk (.mk [95, 108, 97, 119, 95, 103, 97, 116, 101, 115]) := by kernel_rfl
theorem at_90 : Str.ofString "_law_draw" = Str.mk (.mk [95, 108, 97, 119, 95, 100, 114, 97, 119]) := by kernel_rfl
theorem at_91 : Str.ofString "bool" = Str.mk (.mk [98, 111, 111, 108]) := by kernel_rfl
theorem at_92 : Str.ofString "get" = Str.mk (.mk [103, 101, 116]) := by kernel_rfl
theorem at_93 : Str.ofString "out of bounds" = Str.mk (.mk [111, 117, 116, 32, 111, 102, 32, 98, 111, 117, 110, 100, 115]) := by kernel_rfl
theorem at_94 : Str.ofString "nothing back" = Str.mk (.mk [110, 111, 116, 104, 105, 110, 103, 32, 98, 97, 99, 107]) := by kernel_rfl
theorem at_95 : Str.ofString "taken" = Str.mk (.mk [116, 97, 107, 101, 110]) := by kernel_rfl
theorem at_96 : Str.ofString "no gate" = Str.mk (.mk [110, 111, 32, 103, 97, 116, 101]) := by kernel_rfl
theorem at_97 : Str.ofString "upside down" = Str.mk (.mk [117, 112, 115, 105, 100, 101, 32, 100, 111, 119, 110]) := by kernel_rfl
theorem at_98 : Str.ofString "max" = Str.mk (.mk [109, 97, 120]) := by kernel_rfl
theorem at_99 : Str.ofString "beach full" = Str.mk (.mk [98, 101, 97, 99, 104, 32, 102, 117, 108, 108]) := by kernel_rfl
theorem aq : Str.ofString "deeds full" = Str.mk (.mk [100, 101, 101, 100, 115, 32, 102, 117, 108, 108]) := by kernel_rfl
theorem aI : Str.ofString "NoGate" = Str.mk (.mk [78, 111, 71, 97, 116, 101]) := by kernel_rfl
theorem bq : Str.ofString "Taken" = Str.mk (.mk [84, 97, 107, 101, 110]) := by kernel_rfl
theorem Yl : Str.ofString "UpsideDown" = Str.mk (.mk [85, 112, 115, 105, 100, 101, 68, 111, 119, 110]) := by kernel_rfl
theorem aB : Str.ofString "OutOfBounds" = Str.mk (.mk [79, 117, 116, 79, 102, 66, 111, 117, 110, 100, 115]) := by kernel_rfl
theorem af : Str.ofString "BeachFull" = Str.mk (.mk [66, 101, 97, 99, 104, 70, 117, 108, 108]) := by kernel_rfl
theorem YA : Str.ofString "DeedsFull" = Str.mk (.mk [68, 101, 101, 100, 115, 70, 117, 108, 108]) := by kernel_rfl
theorem bA : Str.ofString "NothingBack" = Str.mk (.mk [78, 111, 116, 104, 105, 110, 103, 66, 97, 99, 107]) := by kernel_rfl
theorem ZL : Str.ofString "__name__" = Str.mk (.mk [95, 95, 110, 97, 109, 101, 95, 95]) := by kernel_rfl
theorem ba : Str.ofString "law_throwgate_k45_whole_told_again" = Str.mk (.mk [108, 97, 119, 95, 116, 104, 114, 111, 119, 103, 97, 116, 101, 95, 107, 52, 53, 95, 119, 104, 111, 108, 101, 95, 116, 111, 108, 100, 95, 97, 103, 97, 105, 110]) := by kernel_rfl
theorem aP : Str.ofString "_law_left" = Str.mk (.mk [95, 108, 97, 119, 95, 108, 101, 102, 116]) := by kernel_rfl
theorem bf : Str.ofString "_law_once" = Str.mk (.mk [95, 108, 97, 119, 95, 111, 110, 99, 101]) := by kernel_rfl
theorem Z7 : Str.ofString "_law_heights" = Str.mk (.mk [95, 108, 97, 119, 95, 104, 101, 105, 103, 104, 116, 115]) := by kernel_rfl
theorem aU : Str.ofString "_law_wide" = Str.mk (.mk [95, 108, 97, 119, 95, 119, 105, 100, 101]) := by kernel_rfl
theorem ZU : Str.ofString "_law_low" = Str.mk (.mk [95, 108, 97, 119, 95, 108, 111, 119]) := by kernel_rfl
theorem Z0 : Str.ofString "_law_high" = Str.mk (.mk [95, 108, 97, 119, 95, 104, 105, 103, 104]) := by kernel_rfl
theorem ZD : Str.ofString "_law_under" = Str.mk (.mk [95, 108, 97, 119, 95, 117, 110, 100, 101, 114]) := by kernel_rfl
theorem bp : Str.ofString "_law_over" = Str.mk (.mk [95, 108, 97, 119, 95, 111, 118, 101, 114]) := by kernel_rfl
theorem Y5 : Str.ofString "_law_at_here" = Str.mk (.mk [95, 108, 97, 119, 95, 97, 116, 95, 104, 101, 114, 101]) := by kernel_rfl
theorem YQ : Str.ofString "_law_lows" = Str.mk (.mk [95, 108, 97, 119, 95, 108, 111, 119, 115]) := by kernel_rfl
theorem bc : Str.ofString "_law_highs" = Str.mk (.mk [95, 108, 97, 119, 95, 104, 105, 103, 104, 115]) := by kernel_rfl
theorem Yc : Str.ofString "_law_span" = Str.mk (.mk [95, 108, 97, 119, 95, 115, 112, 97, 110]) := by kernel_rfl
theorem Yh : Str.ofString "_law_near" = Str.mk (.mk [95, 108, 97, 119, 95, 110, 101, 97, 114]) := by kernel_rfl
theorem ZN : Str.ofString "_law_ends" = Str.mk (.mk [95, 108, 97, 119, 95, 101, 110, 100, 115]) := by kernel_rfl
theorem bB : Str.ofString "_law_made" = Str.mk (.mk [95, 108, 97, 119, 95, 109, 97, 100, 101]) := by kernel_rfl
theorem Yp : Str.ofString "_law_used" = Str.mk (.mk [95, 108, 97, 119, 95, 117, 115, 101, 100]) := by kernel_rfl
theorem aa : Str.ofString "_law_step_here" = Str.mk (.mk [95, 108, 97, 119, 95, 115, 116, 101, 112, 95, 104, 101, 114, 101]) := by kernel_rfl
theorem Z4 : Str.ofString "min" = Str.mk (.mk [109, 105, 110]) := by kernel_rfl
theorem YL : Str.ofString "throwgate.beach" = Str.mk (.mk [116, 104, 114, 111, 119, 103, 97, 116, 101, 46, 98, 101, 97, 99, 104]) := by kernel_rfl
theorem bJ : Str.ofString "check_gate" = Str.mk (.mk [99, 104, 101, 99, 107, 95, 103, 97, 116, 101]) := by kernel_rfl
theorem Zz : Str.ofString "gate" = Str.mk (.mk [103, 97, 116, 101]) := by kernel_rfl
theorem bX : Str.ofString "the foot would be above the head" = Str.mk (.mk [116, 104, 101, 32, 102, 111, 111, 116, 32, 119, 111, 117, 108, 100, 32, 98, 101, 32, 97, 98, 111, 118, 101, 32, 116, 104, 101, 32, 104, 101, 97, 100]) := by kernel_rfl
theorem br : Str.ofString "number" = Str.mk (.mk [110, 117, 109, 98, 101, 114]) := by kernel_rfl
theorem aQ : Str.ofString "LEAST" = Str.mk (.mk [76, 69, 65, 83, 84]) := by kernel_rfl
theorem bD : Str.ofString "GREATEST" = Str.mk (.mk [71, 82, 69, 65, 84, 69, 83, 84]) := by kernel_rfl
theorem bj : Str.ofString "a place, foot or head would be out of bounds" = Str.mk (.mk [97, 32, 112, 108, 97, 99, 101, 44, 32, 102, 111, 111, 116, 32, 111, 114, 32, 104, 101, 97, 100, 32, 119, 111, 117, 108, 100, 32, 98, 101, 32, 111, 117, 116, 32, 111, 102, 32, 98, 111, 117, 110, 100, 115]) := by kernel_rfl
theorem aj : Str.ofString "check_places" = Str.mk (.mk [99, 104, 101, 99, 107, 95, 112, 108, 97, 99, 101, 115]) := by kernel_rfl
theorem Zj : Str.ofString "places" = Str.mk (.mk [112, 108, 97, 99, 101, 115]) := by kernel_rfl
theorem ZF : Str.ofString "BadList" = Str.mk (.mk [66, 97, 100, 76, 105, 115, 116]) := by kernel_rfl
theorem ZO : Str.ofString "the list has no place" = Str.mk (.mk [116, 104, 101, 32, 108, 105, 115, 116, 32, 104, 97, 115, 32, 110, 111, 32, 112, 108, 97, 99, 101]) := by kernel_rfl
theorem Za : Str.ofString "MOST_GATES" = Str.mk (.mk [77, 79, 83, 84, 95, 71, 65, 84, 69, 83]) := by kernel_rfl
theorem aA : Str.ofString "the list has too many places" = Str.mk (.mk [116, 104, 101, 32, 108, 105, 115, 116, 32, 104, 97, 115, 32, 116, 111, 111, 32, 109, 97, 110, 121, 32, 112, 108, 97, 99, 101, 115]) := by kernel_rfl
theorem Y4 : Str.ofString "set" = Str.mk (.mk [115, 101, 116]) := by kernel_rfl
theorem bT : Str.ofString "the list has a place twice" = Str.mk (.mk [116, 104, 101, 32, 108, 105, 115, 116, 32, 104, 97, 115, 32, 97, 32, 112, 108, 97, 99, 101, 32, 116, 119, 105, 99, 101]) := by kernel_rfl
theorem YV : Str.ofString "check_throw" = Str.mk (.mk [99, 104, 101, 99, 107, 95, 116, 104, 114, 111, 119]) := by kernel_rfl
theorem bh : Str.ofString "BadThrow" = Str.mk (.mk [66, 97, 100, 84, 104, 114, 111, 119]) := by kernel_rfl
theorem Y3 : Str.ofString "a bottom is below 1" = Str.mk (.mk [97, 32, 98, 111, 116, 116, 111, 109, 32, 105, 115, 32, 98, 101, 108, 111, 119, 32, 49]) := by kernel_rfl
theorem YK : Str.ofString "GREAT_NUMBER" = Str.mk (.mk [71, 82, 69, 65, 84, 95, 78, 85, 77, 66, 69, 82]) := by kernel_rfl
theorem Yo : Str.ofString "a number of the throw is too great" = Str.mk (.mk [97, 32, 110, 117, 109, 98, 101, 114, 32, 111, 102, 32, 116, 104, 101, 32, 116, 104, 114, 111, 119, 32, 105, 115, 32, 116, 111, 111, 32, 103, 114, 101, 97, 116]) := by kernel_rfl
theorem ZH : Str.ofString "__init__" = Str.mk (.mk [95, 95, 105, 110, 105, 116, 95, 95]) := by kernel_rfl
theorem ak : Str.ofString "self" = Str.mk (.mk [115, 101, 108, 102]) := by kernel_rfl
theorem Zs : Str.ofString "standing" = Str.mk (.mk [115, 116, 97, 110, 100, 105, 110, 103]) := by kernel_rfl
theorem bb : Str.ofString "past" = Str.mk (.mk [112, 97, 115, 116]) := by kernel_rfl
theorem ag : Str.ofString "has_gate" = Str.mk (.mk [104, 97, 115, 95, 103, 97, 116, 101]) := by kernel_rfl
theorem be : Str.ofString "place" = Str.mk (.mk [112, 108, 97, 99, 101]) := by kernel_rfl
theorem YO : Str.ofString "gate_at" = Str.mk (.mk [103, 97, 116, 101, 95, 97, 116]) := by kernel_rfl
theorem Zg : Str.ofString "no gate stands at this place" = Str.mk (.mk [110, 111, 32, 103, 97, 116, 101, 32, 115, 116, 97, 110, 100, 115, 32, 97, 116, 32, 116, 104, 105, 115, 32, 112, 108, 97, 99, 101]) := by kernel_rfl
theorem bx : Str.ofString "do_deed" = Str.mk (.mk [100, 111, 95, 100, 101, 101, 100]) := by kernel_rfl
theorem Zu : Str.ofString "instead" = Str.mk (.mk [105, 110, 115, 116, 101, 97, 100]) := by kernel_rfl
theorem bF : Str.ofString "MOST_DEEDS" = Str.mk (.mk [77, 79, 83, 84, 95, 68, 69, 69, 68, 83]) := by kernel_rfl
theorem ZC : Str.ofString "no more deeds may stand" = Str.mk (.mk [110, 111, 32, 109, 111, 114, 101, 32, 100, 101, 101, 100, 115, 32, 109, 97, 121, 32, 115, 116, 97, 110, 100]) := by kernel_rfl
theorem ae : Str.ofString "others" = Str.mk (.mk [111, 116, 104, 101, 114, 115]) := by kernel_rfl
theorem Yu : Str.ofString "foot" = Str.mk (.mk [102, 111, 111, 116]) := by kernel_rfl
theorem YM : Str.ofString "head" = Str.mk (.mk [104, 101, 97, 100]) := by kernel_rfl
theorem aE : Str.ofString "a gate stands at this place already" = Str.mk (.mk [97, 32, 103, 97, 116, 101, 32, 115, 116, 97, 110, 100, 115, 32, 97, 116, 32, 116, 104, 105, 115, 32, 112, 108, 97, 99, 101, 32, 97, 108, 114, 101, 97, 100, 121]) := by kernel_rfl
theorem Y7 : Str.ofString "no more gates may stand" = Str.mk (.mk [110, 111, 32, 109, 111, 114, 101, 32, 103, 97, 116, 101, 115, 32, 109, 97, 121, 32, 115, 116, 97, 110, 100]) := by kernel_rfl
theorem aF : Str.ofString "foot_by" = Str.mk (.mk [102, 111, 111, 116, 95, 98, 121]) := by kernel_rfl
theorem YI : Str.ofString "head_by" = Str.mk (.mk [104, 101, 97, 100, 95, 98, 121]) := by kernel_rfl
theorem ZY : Str.ofString "before" = Str.mk (.mk [98, 101, 102, 111, 114, 101]) := by kernel_rfl
theorem ZP : Str.ofString "many" = Str.mk (.mk [109, 97, 110, 121]) := by kernel_rfl
theorem Y2 : Str.ofString "one deed is the least that is taken back" = Str.mk (.mk [111, 110, 101, 32, 100, 101, 101, 100, 32, 105, 115, 32, 116, 104, 101, 32, 108, 101, 97, 115, 116, 32, 116, 104, 97, 116, 32, 105, 115, 32, 116, 97, 107, 101, 110, 32, 98, 97, 99, 107]) := by kernel_rfl
theorem ar : Str.ofString "fewer deeds stand" = Str.mk (.mk [102, 101, 119, 101, 114, 32, 100, 101, 101, 100, 115, 32, 115, 116, 97, 110, 100]) := by kernel_rfl
theorem YH : Str.ofString "left" = Str.mk (.mk [108, 101, 102, 116]) := by kernel_rfl
theorem Z9 : Str.ofString "gates" = Str.mk (.mk [103, 97, 116, 101, 115]) := by kernel_rfl
theorem aG : Str.ofString "deeds" = Str.mk (.mk [100, 101, 101, 100, 115]) := by kernel_rfl
theorem bC : Str.ofString "gates_at" = Str.mk (.mk [103, 97, 116, 101, 115, 95, 97, 116]) := by kernel_rfl
theorem Zy : Str.ofString "two_gates_at" = Str.mk (.mk [116, 119, 111, 95, 103, 97, 116, 101, 115, 95, 97, 116]) := by kernel_rfl
theorem Yb : Str.ofString "TooFew" = Str.mk (.mk [84, 111, 111, 70, 101, 119]) := by kernel_rfl
theorem ZZ : Str.ofString "one gate alone has no steepest and no flattest throw" = Str.mk (.mk [111, 110, 101, 32, 103, 97, 116, 101, 32, 97, 108, 111, 110, 101, 32, 104, 97, 115, 32, 110, 111, 32, 115, 116, 101, 101, 112, 101, 115, 116, 32, 97, 110, 100, 32, 110, 111, 32, 102, 108, 97, 116, 116, 101, 115, 116, 32, 116, 104, 114, 111, 119]) := by kernel_rfl
theorem YW : Str.ofString "throw_through" = Str.mk (.mk [116, 104, 114, 111, 119, 95, 116, 104, 114, 111, 117, 103, 104]) := by kernel_rfl
theorem bR : Str.ofString "steepest_throw" = Str.mk (.mk [115, 116, 101, 101, 112, 101, 115, 116, 95, 116, 104, 114, 111, 119]) := by kernel_rfl
theorem aR : Str.ofString "flattest_throw" = Str.mk (.mk [102, 108, 97, 116, 116, 101, 115, 116, 95, 116, 104, 114, 111, 119]) := by kernel_rfl
theorem b8 : Str.ofString "fewest_runs" = Str.mk (.mk [102, 101, 119, 101, 115, 116, 95, 114, 117, 110, 115]) := by kernel_rfl
theorem Zf : Str.ofString "SMALL_BEACH" = Str.mk (.mk [83, 77, 65, 76, 76, 95, 66, 69, 65, 67, 72]) := by kernel_rfl
theorem Z5 : Str.ofString "WrongSize" = Str.mk (.mk [87, 114, 111, 110, 103, 83, 105, 122, 101]) := by kernel_rfl
theorem Yd : Str.ofString "the most are told of a small beach that is not empty" = Str.mk (.mk [116, 104, 101, 32, 109, 111, 115, 116, 32, 97, 114, 101, 32, 116, 111, 108, 100, 32, 111, 102, 32, 97, 32, 115, 109, 97, 108, 108, 32, 98, 101, 97, 99, 104, 32, 116, 104, 97, 116, 32, 105, 115, 32, 110, 111, 116, 32, 101, 109, 112, 116, 121]) := by kernel_rfl
theorem bG : Str.ofString "most_gates" = Str.mk (.mk [109, 111, 115, 116, 95, 103, 97, 116, 101, 115]) := by kernel_rfl
theorem bw : Str.ofString "places_passed" = Str.mk (.mk [112, 108, 97, 99, 101, 115, 95, 112, 97, 115, 115, 101, 100]) := by kernel_rfl
theorem X7 : Str.ofString "run_told" = Str.mk (.mk [114, 117, 110, 95, 116, 111, 108, 100]) := by kernel_rfl
theorem bo : Str.ofString "run" = Str.mk (.mk [114, 117, 110]) := by kernel_rfl
theorem aH : Str.ofString "longer" = Str.mk (.mk [108, 111, 110, 103, 101, 114]) := by kernel_rfl
theorem X9 : Str.ofString "longer_throw" = Str.mk (.mk [108, 111, 110, 103, 101, 114, 95, 116, 104, 114, 111, 119]) := by kernel_rfl
theorem aM : Str.ofString "common_throw" = Str.mk (.mk [99, 111, 109, 109, 111, 110, 95, 116, 104, 114, 111, 119]) := by kernel_rfl
theorem Y6 : Str.ofString "throwgate.small" = Str.mk (.mk [116, 104, 114, 111, 119, 103, 97, 116, 101, 46, 115, 109, 97, 108, 108]) := by kernel_rfl
theorem Y8 : Str.ofString "tried_throws" = Str.mk (.mk [116, 114, 105, 101, 100, 95, 116, 104, 114, 111, 119, 115]) := by kernel_rfl
theorem YY : Str.ofString "ordered" = Str.mk (.mk [111, 114, 100, 101, 114, 101, 100]) := by kernel_rfl
theorem aW : Str.ofString "throws" = Str.mk (.mk [116, 104, 114, 111, 119, 115]) := by kernel_rfl
theorem bQ : Str.ofString "index" = Str.mk (.mk [105, 110, 100, 101, 120]) := by kernel_rfl
theorem bg : Str.ofString "earlier" = Str.mk (.mk [101, 97, 114, 108, 105, 101, 114]) := by kernel_rfl
theorem ao : Str.ofString "later" = Str.mk (.mk [108, 97, 116, 101, 114]) := by kernel_rfl
theorem Y1 : Str.ofString "line_by" = Str.mk (.mk [108, 105, 110, 101, 95, 98, 121]) := by kernel_rfl
theorem bn : Str.ofString "tried" = Str.mk (.mk [116, 114, 105, 101, 100]) := by kernel_rfl
theorem YD : Str.ofString "key" = Str.mk (.mk [107, 101, 121]) := by kernel_rfl
theorem cC : Str.ofString "told" = Str.mk (.mk [116, 111, 108, 100]) := by kernel_rfl
theorem aV : Str.ofString "found" = Str.mk (.mk [102, 111, 117, 110, 100]) := by kernel_rfl
theorem Yv : Str.ofString "steepest_found" = Str.mk (.mk [115, 116, 101, 101, 112, 101, 115, 116, 95, 102, 111, 117, 110, 100]) := by kernel_rfl
theorem aJ : Str.ofString "bar_told" = Str.mk (.mk [98, 97, 114, 95, 116, 111, 108, 100]) := by kernel_rfl
theorem Yw : Str.ofString "turned_over" = Str.mk (.mk [116, 117, 114, 110, 101, 100, 95, 111, 118, 101, 114]) := by kernel_rfl
theorem Z1 : Str.ofString "turned_throw" = Str.mk (.mk [116, 117, 114, 110, 101, 100, 95, 116, 104, 114, 111, 119]) := by kernel_rfl
theorem Yg : Str.ofString "throwgate.shore" = Str.mk (.mk [116, 104, 114, 111, 119, 103, 97, 116, 101, 46, 115, 104, 111, 114, 101]) := by kernel_rfl
theorem Zh : Str.ofString "tightest_pair" = Str.mk (.mk [116, 105, 103, 104, 116, 101, 115, 116, 95, 112, 97, 105, 114]) := by kernel_rfl
theorem aw : Str.ofString "pair" = Str.mk (.mk [112, 97, 105, 114]) := by kernel_rfl
theorem aY : Str.ofString "compare" = Str.mk (.mk [99, 111, 109, 112, 97, 114, 101]) := by kernel_rfl
theorem Ze : Str.ofString "foot_to_head" = Str.mk (.mk [102, 111, 111, 116, 95, 116, 111, 95, 104, 101, 97, 100]) := by kernel_rfl
theorem Yj : Str.ofString "foot_place" = Str.mk (.mk [102, 111, 111, 116, 95, 112, 108, 97, 99, 101]) := by kernel_rfl
theorem YJ : Str.ofString "head_place" = Str.mk (.mk [104, 101, 97, 100, 95, 112, 108, 97, 99, 101]) := by kernel_rfl
theorem Zp : Str.ofString "passes_all" = Str.mk (.mk [112, 97, 115, 115, 101, 115, 95, 97, 108, 108]) := by kernel_rfl
theorem YS : Str.ofString "level_throw" = Str.mk (.mk [108, 101, 118, 101, 108, 95, 116, 104, 114, 111, 119]) := by kernel_rfl
theorem YC : Str.ofString "height" = Str.mk (.mk [104, 101, 105, 103, 104, 116]) := by kernel_rfl
theorem Yx : Str.ofString "bar" = Str.mk (.mk [98, 97, 114]) := by kernel_rfl
theorem Y9 : Str.ofString "first_three" = Str.mk (.mk [102, 105, 114, 115, 116, 95, 116, 104, 114, 101, 101]) := by kernel_rfl
theorem YU : Str.ofString "passes" = Str.mk (.mk [112, 97, 115, 115, 101, 115]) := by kernel_rfl
theorem bz : Str.ofString "height_at" = Str.mk (.mk [104, 101, 105, 103, 104, 116, 95, 97, 116]) := by kernel_rfl
theorem Yq : Str.ofString "throwgate.lists" = Str.mk (.mk [116, 104, 114, 111, 119, 103, 97, 116, 101, 46, 108, 105, 115, 116, 115]) := by kernel_rfl
theorem aK : Str.ofString "all" = Str.mk (.mk [97, 108, 108]) := by kernel_rfl
theorem aD : Str.ofString "lowest" = Str.mk (.mk [108, 111, 119, 101, 115, 116]) := by kernel_rfl
theorem Z8 : Str.ofString "top" = Str.mk (.mk [116, 111, 112]) := by kernel_rfl
theorem ZE : Str.ofString "bottom" = Str.mk (.mk [98, 111, 116, 116, 111, 109]) := by kernel_rfl
theorem ZK : Str.ofString "divisor" = Str.mk (.mk [100, 105, 118, 105, 115, 111, 114]) := by kernel_rfl
theorem Yr : Str.ofString "greatest_divisor" = Str.mk (.mk [103, 114, 101, 97, 116, 101, 115, 116, 95, 100, 105, 118, 105, 115, 111, 114]) := by kernel_rfl
theorem bI : Str.ofString "one" = Str.mk (.mk [111, 110, 101]) := by kernel_rfl
theorem Zr : Str.ofString "two" = Str.mk (.mk [116, 119, 111]) := by kernel_rfl
theorem cA : Str.ofString "right" = Str.mk (.mk [114, 105, 103, 104, 116]) := by kernel_rfl
theorem YF : Str.ofString "throwgate.lines" = Str.mk (.mk [116, 104, 114, 111, 119, 103, 97, 116, 101, 46, 108, 105, 110, 101, 115]) := by kernel_rfl
theorem aX : Str.ofString "height_top" = Str.mk (.mk [104, 101, 105, 103, 104, 116, 95, 116, 111, 112]) := by kernel_rfl
theorem ZT : Str.ofString "height_bottom" = Str.mk (.mk [104, 101, 105, 103, 104, 116, 95, 98, 111, 116, 116, 111, 109]) := by kernel_rfl
theorem Yy : Str.ofString "rise_top" = Str.mk (.mk [114, 105, 115, 101, 95, 116, 111, 112]) := by kernel_rfl
theorem bO : Str.ofString "rise_bottom" = Str.mk (.mk [114, 105, 115, 101, 95, 98, 111, 116, 116, 111, 109]) := by kernel_rfl
theorem Z2 : Str.ofString "other" = Str.mk (.mk [111, 116, 104, 101, 114]) := by kernel_rfl
theorem bS : Str.ofString "second" = Str.mk (.mk [115, 101, 99, 111, 110, 100]) := by kernel_rfl
theorem Zl : Str.ofString "steps" = Str.mk (.mk [115, 116, 101, 112, 115]) := by kernel_rfl
theorem bV : Str.ofString "gain" = Str.mk (.mk [103, 97, 105, 110]) := by kernel_rfl
theorem ZB : Str.ofString "start" = Str.mk (.mk [115, 116, 97, 114, 116]) := by kernel_rfl
theorem YR : Str.ofString "rise" = Str.mk (.mk [114, 105, 115, 101]) := by kernel_rfl
theorem Ye : Str.ofString "side_of_line" = Str.mk (.mk [115, 105, 100, 101, 95, 111, 102, 95, 108, 105, 110, 101]) := by kernel_rfl
theorem Zd : Str.ofString "end" = Str.mk (.mk [101, 110, 100]) := by kernel_rfl
theorem YN : Str.ofString "barring" = Str.mk (.mk [98, 97, 114, 114, 105, 110, 103]) := by kernel_rfl
theorem bN : Str.ofString "three" = Str.mk (.mk [116, 104, 114, 101, 101]) := by kernel_rfl
theorem al : Str.ofString "count" = Str.mk (.mk [99, 111, 117, 110, 116]) := by kernel_rfl
theorem aO : Str.ofString "first" = Str.mk (.mk [102, 105, 114, 115, 116]) := by kernel_rfl
theorem Yt : Str.ofString "middle" = Str.mk (.mk [109, 105, 100, 100, 108, 101]) := by kernel_rfl
theorem Y0 : Str.ofString "last" = Str.mk (.mk [108, 97, 115, 116]) := by kernel_rfl
theorem Zw : Str.ofString "throwgate.fracs" = Str.mk (.mk [116, 104, 114, 111, 119, 103, 97, 116, 101, 46, 102, 114, 97, 99, 115]) := by kernel_rfl
theorem YB : Str.ofString "rest" = Str.mk (.mk [114, 101, 115, 116]) := by kernel_rfl
theorem av : Str.ofString "next_rest" = Str.mk (.mk [110, 101, 120, 116, 95, 114, 101, 115, 116]) := by kernel_rfl
theorem ZS : Str.ofString "BeachError" = Str.mk (.mk [66, 101, 97, 99, 104, 69, 114, 114, 111, 114]) := by kernel_rfl
theorem bM : Str.ofString "throwgate.bars" = Str.mk (.mk [116, 104, 114, 111, 119, 103, 97, 116, 101, 46, 98, 97, 114, 115]) := by kernel_rfl
theorem bE : Str.ofString "throwgate.errors" = Str.mk (.mk [116, 104, 114, 111, 119, 103, 97, 116, 101, 46, 101, 114, 114, 111, 114, 115]) := by kernel_rfl
theorem YG : Str.ofString "ValueError" = Str.mk (.mk [86, 97, 108, 117, 101, 69, 114, 114, 111, 114]) := by kernel_rfl
theorem YX : Str.ofString "/claim/cut.py" = Str.mk (.mk [47, 99, 108, 97, 105, 109, 47, 99, 117, 116, 46, 112, 121]) := by kernel_rfl
noncomputable def Tw : PSigma fun t : Program => PySem.Challenge.pw_throwgate_k45_whole_told_again = t := by
 have h := Gq
 simp only [EqA, at_0, at_1, at_2, at_3, at_4, at_5, at_6, at_7, at_8, at_9, at_10, at_11, at_12, at_13, at_14, at_15, at_16, at_17, at_18, at_19, at_20, at_21, at_22, at_23, at_24, at_25, at_26, at_27, at_28, at_29, at_30, at_31, at_32, at_33, at_34, at_35, at_36, at_37, at_38, at_39, at_40, at_41, at_42, at_43, at_44, at_45, at_46, at_47, at_48, at_49, at_50, at_51, at_52, at_53, at_54, at_55, at_56, at_57, at_58, at_59, at_60, at_61, at_62, at_63, at_64, at_65, at_66, at_67, at_68, at_69, at_70, at_71, at_72, at_73, at_74, at_75, at_76, at_77, at_78, at_79, at_80, at_81, at_82, at_83, at_84, at_85, at_86, at_87, at_88, at_89, at_90, at_91, at_92, at_93, at_94, at_95, at_96, at_97, at_98, at_99, aq, aI, bq, Yl, aB, af, YA, bA, ZL, ba, aP, bf, Z7, aU, ZU, Z0, ZD, bp, Y5, YQ, bc, Yc, Yh, ZN, bB, Yp, aa, Z4, YL, bJ, Zz, bX, br, aQ, bD, bj, aj, Zj, ZF, ZO, Za, aA, Y4, bT, YV, bh, Y3, YK, Yo, ZH, ak, Zs, bb, ag, be, YO, Zg, bx, Zu, bF, ZC, ae, Yu, YM, aE, Y7, aF, YI, ZY, ZP, Y2, ar, YH, Z9, aG, bC, Zy, Yb, ZZ, YW, bR, aR, b8, Zf, Z5, Yd, bG, bw, X7, bo, aH, X9, aM, Y6, Y8, YY, aW, bQ, bg, ao, Y1, bn, YD, cC, aV, Yv, aJ, Yw, Z1, Yg, Zh, aw, aY, Ze, Yj, YJ, Zp, YS, YC, Yx, Y9, YU, bz, Yq, aK, aD, Z8, ZE, ZK, Yr, bI, Zr, cA, YF, aX, ZT, Yy, bO, Z2, bS, Zl, bV, ZB, YR, Ye, Zd, YN, bN, al, aO, Yt, Y0, Zw, YB, av, ZS, bM, bE, YG, YX] at h
 exact ⟨_, h⟩
noncomputable def _root_.PySem.W.Fast.tw5112850693652029395 : PySem.Program := TG.Tw.1
theorem _root_.PySem.W.Fast.te5112850693652029395 : PySem.Challenge.pw_throwgate_k45_whole_told_again = PySem.W.Fast.tw5112850693652029395 := TG.Tw.2
set_option hygiene false
local macro_rules | `(tactic| walk_at "NX") => `(tactic| (refine hM _ _ ?_; clear hM; clear M))
local macro_rules | `(tactic| walk_at "Q") => `(tactic| (refine Km fun M hM => ?_))
local macro_rules | `(tactic| walk_at "SC") => `(tactic| (exact ⟨rfl, rfl, rfl, by decide +kernel, rfl, by decide +kernel, by decide +kernel⟩))
local macro_rules | `(tactic| walk_at "SQT0") => `(tactic| (first | with_reducible assumption | exact SqT.of (by with_reducible assumption)))
local macro_rules | `(tactic| walk_at "SQL0") => `(tactic| (first | with_reducible assumption | exact SqL.of (by with_reducible assumption)))
local macro_rules | `(tactic| walk_at "SAT0") => `(tactic| (with_reducible assumption))
local macro_rules | `(tactic| walk_at "SAME0") => `(tactic| (first | with_reducible assumption | exact AI.refl _))
local macro_rules | `(tactic| walk_at "SQT1") => `(tactic| (first | with_reducible assumption | exact SqT.of (by with_reducible assumption) | exact AI.tup (by with_reducible assumption) (by walk_at "SQT0")))
local macro_rules | `(tactic| walk_at "SQL1") => `(tactic| (first | with_reducible assumption | exact SqL.of (by with_reducible assumption) | exact AI.seq (by with_reducible assumption) (by walk_at "SQL0")))
local macro_rules | `(tactic| walk_at "SAT1") => `(tactic| (first | with_reducible assumption | exact AI.get (by with_reducible assumption) (by walk_at "SAT0")))
local macro_rules | `(tactic| walk_at "SAME1") => `(tactic| (first | with_reducible assumption | exact AI.refl _ | exact AI.trans (by with_reducible assumption) (by walk_at "SAME0")))
local macro_rules | `(tactic| walk_at "SQT2") => `(tactic| (first | with_reducible assumption | exact SqT.of (by with_reducible assumption) | exact AI.tup (by with_reducible assumption) (by walk_at "SQT1")))
local macro_rules | `(tactic| walk_at "SQL2") => `(tactic| (first | with_reducible assumption | exact SqL.of (by with_reducible assumption) | exact AI.seq (by with_reducible assumption) (by walk_at "SQL1")))
local macro_rules | `(tactic| walk_at "SAT2") => `(tactic| (first | with_reducible assumption | exact AI.get (by with_reducible assumption) (by walk_at "SAT1")))
local macro_rules | `(tactic| walk_at "SAME2") => `(tactic| (first | with_reducible assumption | exact AI.refl _ | exact AI.trans (by with_reducible assumption) (by walk_at "SAME1")))
local macro_rules | `(tactic| walk_at "SQT3") => `(tactic| (first | with_reducible assumption | exact SqT.of (by with_reducible assumption) | exact AI.tup (by with_reducible assumption) (by walk_at "SQT2")))
local macro_rules | `(tactic| walk_at "SQL3") => `(tactic| (first | with_reducible assumption | exact SqL.of (by with_reducible assumption) | exact AI.seq (by with_reducible assumption) (by walk_at "SQL2")))
local macro_rules | `(tactic| walk_at "SAT3") => `(tactic| (first | with_reducible assumption | exact AI.get (by with_reducible assumption) (by walk_at "SAT2")))
local macro_rules | `(tactic| walk_at "SAME3") => `(tactic| (first | with_reducible assumption | exact AI.refl _ | exact AI.trans (by with_reducible assumption) (by walk_at "SAME2")))
local macro_rules | `(tactic| walk_at "SQT4") => `(tactic| (first | with_reducible assumption | exact SqT.of (by with_reducible assumption) | exact AI.tup (by with_reducible assumption) (by walk_at "SQT3")))
local macro_rules | `(tactic| walk_at "SQL4") => `(tactic| (first | with_reducible assumption | exact SqL.of (by with_reducible assumption) | exact AI.seq (by with_reducible assumption) (by walk_at "SQL3")))
local macro_rules | `(tactic| walk_at "SAT4") => `(tactic| (first | with_reducible assumption | exact AI.get (by with_reducible assumption) (by walk_at "SAT3")))
local macro_rules | `(tactic| walk_at "SAME4") => `(tactic| (first | with_reducible assumption | exact AI.refl _ | exact AI.trans (by with_reducible assumption) (by walk_at "SAME3")))
local macro_rules | `(tactic| walk_at "SQT5") => `(tactic| (first | with_reducible assumption | exact SqT.of (by with_reducible assumption) | exact AI.tup (by with_reducible assumption) (by walk_at "SQT4")))
local macro_rules | `(tactic| walk_at "SQL5") => `(tactic| (first | with_reducible assumption | exact SqL.of (by with_reducible assumption) | exact AI.seq (by with_reducible assumption) (by walk_at "SQL4")))
local macro_rules | `(tactic| walk_at "SAT5") => `(tactic| (first | with_reducible assumption | exact AI.get (by with_reducible assumption) (by walk_at "SAT4")))
local macro_rules | `(tactic| walk_at "SAME5") => `(tactic| (first | with_reducible assumption | exact AI.refl _ | exact AI.trans (by with_reducible assumption) (by walk_at "SAME4")))
local macro_rules | `(tactic| walk_at "SQT6") => `(tactic| (first | with_reducible assumption | exact SqT.of (by with_reducible assumption) | exact AI.tup (by with_reducible assumption) (by walk_at "SQT5")))
local macro_rules | `(tactic| walk_at "SQL6") => `(tactic| (first | with_reducible assumption | exact SqL.of (by with_reducible assumption) | exact AI.seq (by with_reducible assumption) (by walk_at "SQL5")))
local macro_rules | `(tactic| walk_at "SAT6") => `(tactic| (first | with_reducible assumption | exact AI.get (by with_reducible assumption) (by walk_at "SAT5")))
local macro_rules | `(tactic| walk_at "SAME6") => `(tactic| (first | with_reducible assumption | exact AI.refl _ | exact AI.trans (by with_reducible assumption) (by walk_at "SAME5")))
local macro_rules | `(tactic| walk_at "SAT7") => `(tactic| (first | with_reducible assumption | exact AI.get (by with_reducible assumption) (by walk_at "SAT6")))
local macro_rules | `(tactic| walk_at "SAME7") => `(tactic| (first | with_reducible assumption | exact AI.refl _ | exact AI.trans (by with_reducible assumption) (by walk_at "SAME6")))
local macro_rules | `(tactic| walk_at "SAT8") => `(tactic| (first | with_reducible assumption | exact AI.get (by with_reducible assumption) (by walk_at "SAT7")))
local macro_rules | `(tactic| walk_at "SAME8") => `(tactic| (first | with_reducible assumption | exact AI.refl _ | exact AI.trans (by with_reducible assumption) (by walk_at "SAME7")))
local macro_rules | `(tactic| walk_at "RD") => `(tactic| ((try dsimp only [SG, OQ, Sv, Nb, N5, Tg, TQ, QT, Nm, EM, QB, Mc, KL, tOp, tUn, L0, tC, Hd, GZ, KC, HM, tCB, JM, Ja, rI, rI0, rU, rEq, rNe, PP, O0, tOr, Jh, Qm, Jn, tB, tIf, PL, OW, JR, Dh, DD, Es, RB, Qk, Jz, Ep, Ef, Oz, DB, JO, Kx, EJ, La, O2, JF, DC, Hb, Jo, Jc, E5, G8, tSl, Pa, DA, Jx, PD, IL, rIn, Pm, IQ, HE, Ee, Ew, PY, HW, Pj, Er, J1, Jd, JI, Ky, L2.start, if_true, if_false, List.map_cons, List.map_nil, List.length_cons, List.length_nil, List.cons_append, List.nil_append, List.replicate, List.set_cons_zero, List.set_cons_succ, List.getElem?_cons_zero, List.getElem?_cons_succ, Nat.reduceAdd, Nat.reduceSub, Int.reduceToNat, Int.reduceNeg, Int.reduceMul, Int.reduceAdd, Int.reduceSub]); (try simp only [SG, OQ, Sv, Nb, N5, Tg, TQ, QT, Nm, EM, QB, Mc, KL, tOp, tUn, L0, tC, Hd, GZ, KC, HM, tCB, JM, Ja, rI, rI0, rU, rEq, rNe, R4, PP, O0, tOr, Jh, Qm, Jn, tB, tIf, PL, OW, Sw, S9, RP, JR, Dh, DD, Es, RB, Qk, Jz, Ep, Ef, Oz, DB, JO, Kx, EJ, La, O2, JF, DC, Hb, Jo, Jc, E5, G8, tSl, Pa, DA, Jx, PD, IL, rIn, Pm, IQ, HE, Ee, Ew, PY, HW, Pj, Er, J1, Jd, JI, Ky, L2.start, cxK, exists_and_right, and_assoc, Int.reduceLE, Int.reduceLT, Nat.reduceLT, Nat.reducePow, Int.reducePow, MM, QG, false_and, exists_false, and_false, if_true, if_false, decide_true, decide_false, Bool.false_eq_true, Bool.not_true, Bool.not_false, List.map_cons, List.map_nil, List.length_cons, List.length_nil, List.cons_append, List.nil_append, List.append_nil, List.replicate, List.set_cons_zero, List.set_cons_succ, List.getElem?_cons_zero, List.getElem?_cons_succ, Option.some.injEq, V.int.injEq, V.bl.injEq, V.ref.injEq, V.ty.injEq, V.str.injEq, List.cons.injEq, exists_eq_left', exists_and_left, exists_eq_left, true_and, and_true, true_or, or_true, Nat.reduceAdd, Nat.reduceSub, Int.reduceToNat, Int.reduceNeg, Int.reduceMul, Int.reduceAdd, Int.reduceSub, Bool.not_eq_true, Bool.not_not, forall_const])))
local macro_rules | `(tactic| walk_at "RDE") => `(tactic| ((try dsimp only [tOp, tUn, L0, tC, Hd, GZ, KC, HM, tCB, JM, Ja, rI, rI0, rU, rEq, rNe, PP, O0, tOr, Jh, Qm, Jn, tB, tIf, PL, OW, JR, Dh, DD, Es, RB, Qk, Jz, Ep, Ef, Oz, DB, JO, Kx, EJ, La, O2, JF, DC, Hb, Jo, Jc, E5, G8, tSl, Pa, DA, Jx, PD, IL, rIn, Pm, IQ, HE, Ee, Ew, PY, HW, Pj, Er, J1, Jd, JI, Ky, L2.start, if_true, if_false, List.map_cons, List.map_nil, List.length_cons, List.length_nil, List.cons_append, List.nil_append, List.replicate, List.set_cons_zero, List.set_cons_succ, List.getElem?_cons_zero, List.getElem?_cons_succ, Nat.reduceAdd, Nat.reduceSub, Int.reduceToNat, Int.reduceNeg, Int.reduceMul, Int.reduceAdd, Int.reduceSub]); (try simp only [tOp, tUn, L0, tC, Hd, GZ, KC, HM, tCB, JM, Ja, rI, rI0, rU, rEq, rNe, R4, PP, O0, tOr, Jh, Qm, Jn, tB, tIf, PL, OW, Sw, S9, RP, JR, Dh, DD, Es, RB, Qk, Jz, Ep, Ef, Oz, DB, JO, Kx, EJ, La, O2, JF, DC, Hb, Jo, Jc, E5, G8, tSl, Pa, DA, Jx, PD, IL, rIn, Pm, IQ, HE, Ee, Ew, PY, HW, Pj, Er, J1, Jd, JI, Ky, L2.start, cxK, exists_and_right, and_assoc, Int.reduceLE, Int.reduceLT, Nat.reduceLT, Nat.reducePow, Int.reducePow, MM, QG, false_and, exists_false, and_false, if_true, if_false, decide_true, decide_false, Bool.false_eq_true, Bool.not_true, Bool.not_false, List.map_cons, List.map_nil, List.length_cons, List.length_nil, List.cons_append, List.nil_append, List.append_nil, List.replicate, List.set_cons_zero, List.set_cons_succ, List.getElem?_cons_zero, List.getElem?_cons_succ, Option.some.injEq, V.int.injEq, V.bl.injEq, V.ref.injEq, V.ty.injEq, V.str.injEq, List.cons.injEq, exists_eq_left', exists_and_left, exists_eq_left, true_and, and_true, true_or, or_true, Nat.reduceAdd, Nat.reduceSub, Int.reduceToNat, Int.reduceNeg, Int.reduceMul, Int.reduceAdd, Int.reduceSub, Bool.not_eq_true, Bool.not_not, forall_const])))
local macro_rules | `(tactic| walk_at "STEP") => `(tactic| ((first | (with_reducible refine ⟨_, rfl, ?_⟩) | (with_reducible apply Li; · exact rfl) | (with_reducible apply Li; · (walk_at "SQT6")) | (with_reducible apply Li; · (walk_at "SQL6")) | (with_reducible apply Li; · (walk_at "SAT6")) | (with_reducible apply Li; · exact Av (by omega) (by omega)) | (with_reducible apply exOrL; · (walk_at "SQL6")) | (with_reducible apply exOrR; · (walk_at "SQT6")) | (with_reducible apply Li; · exact GH.tup (by walk_at "SAT6")) | (with_reducible apply Li; · exact GH.lst (by walk_at "SAT6")) | (with_reducible apply Li; · exact GH.int _) | (with_reducible apply Li; · exact GH.str _) | (with_reducible apply And.intro; · (first | exact rfl | decide | with_reducible assumption | omega | exact ⟨_, rfl⟩ | exact ⟨_, (by walk_at "SQL6")⟩ | exact ⟨_, (by walk_at "SQT6")⟩ | exact ⟨_, (by walk_at "SAT6")⟩ | (simp only [List.length_map, List.length_append, List.length_cons, List.length_nil, PySem.sizeLine_eq]; omega) | first | with_reducible assumption | exact Sm.of (n := 10 ^ 120) (by omega) (by decide +kernel))) | (with_reducible intro p H' hn hs he; (have ck := Z3 hs); clear ck) | (with_reducible apply To; · (first | decide | (simp; done) | (simp; omega))) | (with_reducible apply aN; · (first | decide | (simp; done) | (simp; omega))))))
local macro_rules | `(tactic| walk_at "AUTO") => `(tactic| (repeat walk_at "STEP"))
local macro_rules | `(tactic| delta $ids*) => do
  let ls ← ids.mapM fun i => `(Lean.Parser.Tactic.simpLemma| $i:ident)
  `(tactic| (try dsimp only [SG, OQ, Sv, Nb, N5, Tg, TQ, QT, Nm, EM, QB, Mc, KL, tOp, tUn, L0, tC, Hd, GZ, KC, HM, tCB, JM, Ja, rI, rI0, rU, rEq, rNe, PP, O0, tOr, Jh, Qm, Jn, tB, tIf, PL, OW, JR, Dh, DD, Es, RB, Qk, Jz, Ep, Ef, Oz, DB, JO, Kx, EJ, La, O2, JF, DC, Hb, Jo, Jc, E5, G8, tSl, Pa, DA, Jx, PD, IL, rIn, Pm, IQ, HE, Ee, Ew, PY, HW, Pj, Er, J1, Jd, JI, Ky, L2.start, if_true, if_false, List.map_cons, List.map_nil, List.length_cons, List.length_nil, List.cons_append, List.nil_append, List.replicate, List.set_cons_zero, List.set_cons_succ, List.getElem?_cons_zero, List.getElem?_cons_succ, Nat.reduceAdd, Nat.reduceSub, Int.reduceToNat, Int.reduceNeg, Int.reduceMul, Int.reduceAdd, Int.reduceSub, $ls,*]); (try simp only [SG, OQ, Sv, Nb, N5, Tg, TQ, QT, Nm, EM, QB, Mc, KL, tOp, tUn, L0, tC, Hd, GZ, KC, HM, tCB, JM, Ja, rI, rI0, rU, rEq, rNe, R4, PP, O0, tOr, Jh, Qm, Jn, tB, tIf, PL, OW, Sw, S9, RP, JR, Dh, DD, Es, RB, Qk, Jz, Ep, Ef, Oz, DB, JO, Kx, EJ, La, O2, JF, DC, Hb, Jo, Jc, E5, G8, tSl, Pa, DA, Jx, PD, IL, rIn, Pm, IQ, HE, Ee, Ew, PY, HW, Pj, Er, J1, Jd, JI, Ky, L2.start, cxK, exists_and_right, and_assoc, Int.reduceLE, Int.reduceLT, Nat.reduceLT, Nat.reducePow, Int.reducePow, MM, QG, false_and, exists_false, and_false, if_true, if_false, decide_true, decide_false, Bool.false_eq_true, Bool.not_true, Bool.not_false, List.map_cons, List.map_nil, List.length_cons, List.length_nil, List.cons_append, List.nil_append, List.append_nil, List.replicate, List.set_cons_zero, List.set_cons_succ, List.getElem?_cons_zero, List.getElem?_cons_succ, Option.some.injEq, V.int.injEq, V.bl.injEq, V.ref.injEq, V.ty.injEq, V.str.injEq, List.cons.injEq, exists_eq_left', exists_and_left, exists_eq_left, true_and, and_true, true_or, or_true, Nat.reduceAdd, Nat.reduceSub, Int.reduceToNat, Int.reduceNeg, Int.reduceMul, Int.reduceAdd, Int.reduceSub, Bool.not_eq_true, Bool.not_not, forall_const, $ls,*]))
noncomputable def top (i : Nat) : Stmt := PySem.Challenge.pw_throwgate_k45_whole_told_again.main.body.getD i (.Pass ⟨0, 0, 0, 0⟩)
noncomputable abbrev Dl : Stmt := top 20
noncomputable abbrev MP : Stmt := top 21
noncomputable abbrev Em : Stmt := top 22
noncomputable abbrev CO : Stmt := top 24
noncomputable abbrev Nj : Stmt := top 25
noncomputable abbrev MH : Stmt := top 26
noncomputable abbrev HX : Stmt := top 28
noncomputable abbrev L9 : Stmt := top 29
noncomputable abbrev Oo : Stmt := top 30
noncomputable abbrev Fs : Stmt := top 32
noncomputable abbrev DS : Stmt := top 33
noncomputable abbrev Dp : Stmt := top 34
noncomputable abbrev DK : Stmt := top 35
noncomputable abbrev C6 : Stmt := top 36
noncomputable abbrev Eh : Stmt := top 37
noncomputable abbrev Du : Stmt := top 38
noncomputable abbrev Kf : Stmt := top 39
noncomputable abbrev DN : Stmt := top 40
noncomputable abbrev C7 : Stmt := top 41
noncomputable abbrev Ex : Stmt := top 42
noncomputable abbrev ED : Stmt := top 43
noncomputable abbrev C2 : Stmt := top 44
noncomputable abbrev J4 : Stmt := top 46
noncomputable abbrev E6 : Stmt := top 47
noncomputable abbrev EC : Stmt := top 49
noncomputable abbrev GG : Stmt := top 50
noncomputable abbrev F2 : Stmt := top 52
noncomputable abbrev D5 : Stmt := top 53
noncomputable abbrev E2 : Stmt := top 54
noncomputable abbrev Fu : Stmt := BH (top 55) 0
noncomputable abbrev C5 : Stmt := BH (top 55) 1
noncomputable abbrev DX : Stmt := BH (top 55) 2
noncomputable abbrev DV : Stmt := BH (top 55) 3
noncomputable abbrev ID : Stmt := BH (top 55) 4
noncomputable abbrev Ft : Stmt := BH (top 55) 5
noncomputable abbrev F3 : Stmt := BH (top 55) 6
noncomputable abbrev GO : Stmt := BH (top 55) 7
noncomputable abbrev F1 : Stmt := BH (top 55) 8
noncomputable abbrev E3 : Stmt := BH (top 55) 9
noncomputable abbrev E4 : Stmt := BH (top 55) 10
noncomputable abbrev C8 : Stmt := BH (top 55) 11
noncomputable abbrev B6 : Stmt := BH (top 55) 12
noncomputable abbrev DW : Stmt := BH (top 55) 13
noncomputable abbrev Cv : Stmt := BH (top 55) 14
noncomputable abbrev Cy : Stmt := BH (top 55) 15
noncomputable abbrev Fv : Stmt := BH (top 55) 16
noncomputable abbrev GF : Stmt := BH (top 55) 17
noncomputable abbrev D6 : Stmt := BH (top 55) 18
noncomputable abbrev Te : Stmt := top 57
noncomputable abbrev KN : Stmt := top 58
noncomputable abbrev Hm : Stmt := top 59
noncomputable abbrev MT : Stmt := top 60
noncomputable abbrev MJ : Stmt := top 61
noncomputable abbrev He : Stmt := top 62
noncomputable abbrev Me : Stmt := top 63
noncomputable abbrev Ha : Stmt := top 64
noncomputable abbrev No : Stmt := top 65
noncomputable abbrev Oj : Stmt := top 66
noncomputable abbrev Oi : Stmt := top 67
noncomputable abbrev RN : Stmt := top 68
noncomputable abbrev OG : Stmt := top 69
noncomputable abbrev Nr : Stmt := top 70
noncomputable abbrev Nu : Stmt := top 71
noncomputable abbrev Kb : Stmt := top 72
noncomputable abbrev Q3 : Stmt := top 73
noncomputable abbrev Ma : Stmt := top 74
noncomputable abbrev RE : Stmt := top 75
noncomputable abbrev TV : Stmt := top 76
noncomputable abbrev OE : Stmt := top 77
noncomputable abbrev Fo : Stmt := top 78
noncomputable abbrev ME : Stmt := top 79
noncomputable abbrev Ek : Stmt := top 80
noncomputable abbrev T7 : Stmt := top 81
noncomputable abbrev MN : Pos := ⟨176, 26, 176, 51⟩
noncomputable abbrev U8 : Str := (("most_gates" : Str) ++ ".<locals>.") ++ "<lambda>"
noncomputable abbrev Fk : Addr := 330
noncomputable abbrev qv : Program := { PySem.Challenge.pw_throwgate_k45_whole_told_again with main := { PySem.Challenge.pw_throwgate_k45_whole_told_again.main with body := [T7] } }
noncomputable def bK : List Str := [Str.ofString "LEAST", Str.ofString "GREATEST", Str.ofString "MOST_GATES", Str.ofString "MOST_DEEDS", Str.ofString "SMALL_BEACH", Str.ofString "GREAT_NUMBER", Str.ofString "BeachError", Str.ofString "NoGate"]
noncomputable def ZQ : List Str := [Str.ofString "Taken", Str.ofString "UpsideDown", Str.ofString "OutOfBounds", Str.ofString "BeachFull", Str.ofString "DeedsFull", Str.ofString "NothingBack", Str.ofString "BadList", Str.ofString "TooFew"]
noncomputable def YZ : List Str := [Str.ofString "WrongSize", Str.ofString "BadThrow", Str.ofString "side_of_line", Str.ofString "barring", Str.ofString "first_three", Str.ofString "greatest_divisor", Str.ofString "lowest", Str.ofString "compare"]
noncomputable def bZ : List Str := [Str.ofString "height_at", Str.ofString "line_by", Str.ofString "passes", Str.ofString "passes_all", Str.ofString "places_passed", Str.ofString "foot_to_head", Str.ofString "tightest_pair", Str.ofString "steepest_found"]
noncomputable def Zt : List Str := [Str.ofString "level_throw", Str.ofString "common_throw", Str.ofString "bar_told", Str.ofString "throw_through", Str.ofString "steepest_throw", Str.ofString "turned_over", Str.ofString "turned_throw", Str.ofString "flattest_throw"]
noncomputable def X8 : List Str := [Str.ofString "run_told", Str.ofString "fewest_runs", Str.ofString "tried_throws", Str.ofString "most_gates", Str.ofString "check_gate", Str.ofString "check_places", Str.ofString "check_throw", Str.ofString "Beach"]
noncomputable def aC : List Str := [Str.ofString "_law_at", Str.ofString "_law_spread", Str.ofString "_law_heights", Str.ofString "_law_gates", Str.ofString "_law_whole", Str.ofString "_law_numbers", Str.ofString "_law_would", Str.ofString "_law_refusal"]
noncomputable def b9 : List Str := [Str.ofString "_law_done", Str.ofString "_law_kept", Str.ofString "_law_step", Str.ofString "_law_how", Str.ofString "_law_laid", Str.ofString "_law_menu", Str.ofString "_law_deed", Str.ofString "_law_picked"]
noncomputable def ZM : List Str := [Str.ofString "_law_gcd", Str.ofString "_law_throw", Str.ofString "_law_gap", Str.ofString "_law_by", Str.ofString "_law_list", Str.ofString "_law_standing", Str.ofString "_law_again", Str.ofString "_law_all_again"]
noncomputable def L7 : List Str := bK ++ ZQ ++ YZ ++ bZ ++ Zt ++ X8 ++ aC ++ b9 ++ ZM
noncomputable def addrs : List Addr := [4, 2, 3, 15, 22, 23, 24, 25, 28, 35, 36, 37, 40, 47, 48, 49, 52, 59, 60, 61, 64, 71, 72, 73, 76, 83, 84, 85, 88, 95, 96, 97, 100, 107, 108, 109, 112, 119, 120, 121, 124, 131, 132, 133, 136, 143, 144, 145, 148, 155, 156, 157, 160, 162, 163, 165, 166, 167, 169, 170, 172, 173, 174, 176, 177, 179, 180, 181, 183, 184, 186, 187, 188, 190, 191, 193, 194, 195, 197, 198, 200, 201, 202, 204, 205, 207, 208, 209, 211, 212, 214, 215, 216, 218, 219, 221, 222, 223, 226, 227, 228, 231, 232, 233, 235, 236, 238, 239, 240, 242, 243, 245, 246, 247, 249, 250, 252, 253, 254, 256, 257, 259, 260, 261, 263, 264, 266, 267, 268, 270, 271, 273, 274, 275, 277, 278, 280, 281, 282, 284, 285, 287, 288, 289, 291, 292, 294, 295, 296, 298, 299, 301, 302, 303, 306, 307, 308, 310, 311, 313, 314, 315, 317, 318, 320, 321, 322, 324, 325, 327, 328, 329, 332, 333, 334, 336, 337, 339, 340, 341, 343, 344, 346, 347, 348, 350, 351, 353, 354, 362, 364, 365, 367, 368, 369, 372, 373, 374, 376, 377, 379, 380, 381, 384, 385, 386, 388, 389, 391, 392, 393, 395, 396, 398, 399, 400, 402, 403, 405, 406, 407, 409, 410, 412, 413, 414, 415, 417, 418, 420, 421, 422, 424, 425, 427, 428, 429, 431, 432, 434, 435, 436, 439, 440, 441, 443, 444, 446, 447, 448, 450, 451, 453, 454, 455, 457, 458, 460, 461, 462, 464, 465, 467, 468, 469, 471, 472, 474, 475, 476, 478, 479, 481, 482, 483, 485, 486, 488, 489, 490, 491, 492, 493, 494, 497, 499, 500, 502, 503, 504, 506, 507, 509, 510, 511, 513, 514, 516, 517, 518, 520, 521, 523, 524, 525, 527, 528, 530, 531, 532, 534, 535, 537, 538, 539, 541, 542, 544, 545, 546, 548, 549, 551, 552, 553, 555, 556, 558, 559, 560, 562, 563, 565, 566, 567, 569, 570, 572, 573, 574, 576, 577, 579, 580, 581, 583, 584, 586, 587, 588, 590, 591, 593, 594, 595, 597, 598, 600, 601, 602, 604, 605, 607, 608, 609, 611, 612, 614, 615, 616, 618, 619, 621, 622, 623, 625, 626, 628, 629, 630, 632, 633, 635, 636, 637, 639, 640, 642, 643, 644, 647, 648, 649, 652, 653, 654, 656, 657, 659, 660, 661, 664, 665]
noncomputable def obs0 (K : PySem.W.Frag) : List (Bool) := [aL K "Beach" ["standing", "past"], Ku K "BeachError", Ku K "NoGate", Ku K "Taken", Ku K "UpsideDown", Ku K "OutOfBounds", Ku K "BeachFull", Ku K "DeedsFull"]
noncomputable def val0 : List (Bool) := [true, true, true, true, true, true, true, true]
noncomputable def obs1 (K : PySem.W.Frag) : List (Bool) := [Ku K "NothingBack", Ku K "BadList", Ku K "TooFew", Ku K "WrongSize", Ku K "BadThrow", LM.Zq K "most_gates" Fk, HK K "abs", HK K "all"]
noncomputable def val1 : List (Bool) := [true, true, true, true, true, true, true, true]
noncomputable def obs2 (K : PySem.W.Frag) : List (Bool) := [HK K "bool", HK K "dict", HK K "enumerate", HK K "int", HK K "isinstance", HK K "len", HK K "list", HK K "max"]
noncomputable def val2 : List (Bool) := [true, true, true, true, true, true, true, true]
noncomputable def obs3 (K : PySem.W.Frag) : List (Bool) := [HK K "min", HK K "range", HK K "set", HK K "sorted", HK K "tuple"]
noncomputable def val3 : List (Bool) := [true, true, true, true, true]
noncomputable def obs4 (K : PySem.W.Frag) : List (Option Bool) := [Au K "NoGate" "NoGate", Au K "NoGate" "Taken", Au K "NoGate" "UpsideDown", Au K "NoGate" "OutOfBounds", Au K "NoGate" "BeachFull", Au K "NoGate" "DeedsFull", Au K "NoGate" "NothingBack", Au K "Taken" "NoGate"]
noncomputable def val4 : List (Option Bool) := [some true, some false, some false, some false, some false, some false, some false, some false]
noncomputable def obs5 (K : PySem.W.Frag) : List (Option Bool) := [Au K "Taken" "Taken", Au K "Taken" "UpsideDown", Au K "Taken" "OutOfBounds", Au K "Taken" "BeachFull", Au K "Taken" "DeedsFull", Au K "Taken" "NothingBack", Au K "UpsideDown" "NoGate", Au K "UpsideDown" "Taken"]
noncomputable def val5 : List (Option Bool) := [some true, some false, some false, some false, some false, some false, some false, some false]
noncomputable def obs6 (K : PySem.W.Frag) : List (Option Bool) := [Au K "UpsideDown" "UpsideDown", Au K "UpsideDown" "OutOfBounds", Au K "UpsideDown" "BeachFull", Au K "UpsideDown" "DeedsFull", Au K "UpsideDown" "NothingBack", Au K "OutOfBounds" "NoGate", Au K "OutOfBounds" "Taken", Au K "OutOfBounds" "UpsideDown"]
noncomputable def val6 : List (Option Bool) := [some true, some false, some false, some false, some false, some false, some false, some false]
noncomputable def obs7 (K : PySem.W.Frag) : List (Option Bool) := [Au K "OutOfBounds" "OutOfBounds", Au K "OutOfBounds" "BeachFull", Au K "OutOfBounds" "DeedsFull", Au K "OutOfBounds" "NothingBack", Au K "BeachFull" "NoGate", Au K "BeachFull" "Taken", Au K "BeachFull" "UpsideDown", Au K "BeachFull" "OutOfBounds"]
noncomputable def val7 : List (Option Bool) := [some true, some false, some false, some false, some false, some false, some false, some false]
noncomputable def obs8 (K : PySem.W.Frag) : List (Option Bool) := [Au K "BeachFull" "BeachFull", Au K "BeachFull" "DeedsFull", Au K "BeachFull" "NothingBack", Au K "DeedsFull" "NoGate", Au K "DeedsFull" "Taken", Au K "DeedsFull" "UpsideDown", Au K "DeedsFull" "OutOfBounds", Au K "DeedsFull" "BeachFull"]
noncomputable def val8 : List (Option Bool) := [some true, some false, some false, some false, some false, some false, some false, some false]
noncomputable def obs9 (K : PySem.W.Frag) : List (Option Bool) := [Au K "DeedsFull" "DeedsFull", Au K "DeedsFull" "NothingBack", Au K "NothingBack" "NoGate", Au K "NothingBack" "Taken", Au K "NothingBack" "UpsideDown", Au K "NothingBack" "OutOfBounds", Au K "NothingBack" "BeachFull", Au K "NothingBack" "DeedsFull"]
noncomputable def val9 : List (Option Bool) := [some true, some false, some false, some false, some false, some false, some false, some false]
noncomputable def obs10 (K : PySem.W.Frag) : List (Option Bool) := [Au K "NothingBack" "NothingBack", Au K "BadList" "NoGate", Au K "BadList" "Taken", Au K "BadList" "UpsideDown", Au K "BadList" "OutOfBounds", Au K "BadList" "BeachFull", Au K "BadList" "DeedsFull", Au K "BadList" "NothingBack"]
noncomputable def val10 : List (Option Bool) := [some true, some false, some false, some false, some false, some false, some false, some false]
noncomputable def obs11 (K : PySem.W.Frag) : List (Option Bool) := [Au K "TooFew" "NoGate", Au K "TooFew" "Taken", Au K "TooFew" "UpsideDown", Au K "TooFew" "OutOfBounds", Au K "TooFew" "BeachFull", Au K "TooFew" "DeedsFull", Au K "TooFew" "NothingBack", Au K "WrongSize" "NoGate"]
noncomputable def val11 : List (Option Bool) := [some false, some false, some false, some false, some false, some false, some false, some false]
noncomputable def obs12 (K : PySem.W.Frag) : List (Option Bool) := [Au K "WrongSize" "Taken", Au K "WrongSize" "UpsideDown", Au K "WrongSize" "OutOfBounds", Au K "WrongSize" "BeachFull", Au K "WrongSize" "DeedsFull", Au K "WrongSize" "NothingBack", Au K "BadThrow" "NoGate", Au K "BadThrow" "Taken"]
noncomputable def val12 : List (Option Bool) := [some false, some false, some false, some false, some false, some false, some false, some false]
noncomputable def obs13 (K : PySem.W.Frag) : List (Option Bool) := [Au K "BadThrow" "UpsideDown", Au K "BadThrow" "OutOfBounds", Au K "BadThrow" "BeachFull", Au K "BadThrow" "DeedsFull", Au K "BadThrow" "NothingBack"]
noncomputable def val13 : List (Option Bool) := [some false, some false, some false, some false, some false]
noncomputable def obs14 (K : PySem.W.Frag) : List (Seen) := [A9 K "side_of_line", A9 K "barring", A9 K "first_three", A9 K "greatest_divisor", A9 K "lowest", A9 K "compare", A9 K "height_at", A9 K "line_by"]
noncomputable def val14 : List (Seen) := [Ar "side_of_line" "side_of_line" Dl [], Ar "barring" "barring" MP [], Ar "first_three" "first_three" Em [], Ar "greatest_divisor" "greatest_divisor" CO [], Ar "lowest" "lowest" Nj [], Ar "compare" "compare" MH [], Ar "height_at" "height_at" HX [], Ar "line_by" "line_by" L9 []]
noncomputable def obs15 (K : PySem.W.Frag) : List (Seen) := [A9 K "passes", A9 K "passes_all", A9 K "places_passed", A9 K "foot_to_head", A9 K "tightest_pair", A9 K "steepest_found", A9 K "level_throw", A9 K "common_throw"]
noncomputable def val15 : List (Seen) := [Ar "passes" "passes" Oo [], Ar "passes_all" "passes_all" Fs [], Ar "places_passed" "places_passed" DS [], Ar "foot_to_head" "foot_to_head" Dp [], Ar "tightest_pair" "tightest_pair" DK [], Ar "steepest_found" "steepest_found" C6 [], Ar "level_throw" "level_throw" Eh [], Ar "common_throw" "common_throw" Du []]
noncomputable def obs16 (K : PySem.W.Frag) : List (Seen) := [A9 K "bar_told", A9 K "throw_through", A9 K "steepest_throw", A9 K "turned_over", A9 K "turned_throw", A9 K "flattest_throw", A9 K "run_told", A9 K "fewest_runs"]
noncomputable def val16 : List (Seen) := [Ar "bar_told" "bar_told" Kf [], Ar "throw_through" "throw_through" DN [], Ar "steepest_throw" "steepest_throw" C7 [], Ar "turned_over" "turned_over" Ex [], Ar "turned_throw" "turned_throw" ED [], Ar "flattest_throw" "flattest_throw" C2 [], Ar "run_told" "run_told" J4 [], Ar "fewest_runs" "fewest_runs" E6 []]
noncomputable def obs17 (K : PySem.W.Frag) : List (Seen) := [A9 K "tried_throws", A9 K "most_gates", A9 K "check_gate", A9 K "check_places", A9 K "check_throw", DJ K "Beach" "__init__" "Beach.__init__", DJ K "Beach" "has_gate" "Beach.has_gate", DJ K "Beach" "gate_at" "Beach.gate_at"]
noncomputable def val17 : List (Seen) := [Ar "tried_throws" "tried_throws" EC [], Ar "most_gates" "most_gates" GG [], Ar "check_gate" "check_gate" F2 [], Ar "check_places" "check_places" D5 [], Ar "check_throw" "check_throw" E2 [], Ar "__init__" "Beach.__init__" Fu [], Ar "has_gate" "Beach.has_gate" C5 [], Ar "gate_at" "Beach.gate_at" DX []]
noncomputable def obs18 (K : PySem.W.Frag) : List (Seen) := [DJ K "Beach" "do_deed" "Beach.do_deed", DJ K "Beach" "put" "Beach.put", DJ K "Beach" "take" "Beach.take", DJ K "Beach" "lift" "Beach.lift", DJ K "Beach" "sink" "Beach.sink", DJ K "Beach" "back" "Beach.back", DJ K "Beach" "gates" "Beach.gates", DJ K "Beach" "deeds" "Beach.deeds"]
noncomputable def val18 : List (Seen) := [Ar "do_deed" "Beach.do_deed" DV [], Ar "put" "Beach.put" ID [], Ar "take" "Beach.take" Ft [], Ar "lift" "Beach.lift" F3 [], Ar "sink" "Beach.sink" GO [], Ar "back" "Beach.back" F1 [1], Ar "gates" "Beach.gates" E3 [], Ar "deeds" "Beach.deeds" E4 []]
noncomputable def obs19 (K : PySem.W.Frag) : List (Seen) := [DJ K "Beach" "gates_at" "Beach.gates_at", DJ K "Beach" "two_gates_at" "Beach.two_gates_at", DJ K "Beach" "through" "Beach.through", DJ K "Beach" "steepest" "Beach.steepest", DJ K "Beach" "flattest" "Beach.flattest", DJ K "Beach" "runs" "Beach.runs", DJ K "Beach" "most" "Beach.most", DJ K "Beach" "passed" "Beach.passed"]
noncomputable def val19 : List (Seen) := [Ar "gates_at" "Beach.gates_at" C8 [], Ar "two_gates_at" "Beach.two_gates_at" B6 [], Ar "through" "Beach.through" DW [], Ar "steepest" "Beach.steepest" Cv [], Ar "flattest" "Beach.flattest" Cy [], Ar "runs" "Beach.runs" Fv [], Ar "most" "Beach.most" GF [], Ar "passed" "Beach.passed" D6 []]
noncomputable def obs20 (K : PySem.W.Frag) : List (Seen) := [A9 K "_law_at", A9 K "_law_spread", A9 K "_law_heights", A9 K "_law_gates", A9 K "_law_whole", A9 K "_law_numbers", A9 K "_law_would", A9 K "_law_refusal"]
noncomputable def val20 : List (Seen) := [Ar "_law_at" "_law_at" Te [], Ar "_law_spread" "_law_spread" KN [], Ar "_law_heights" "_law_heights" Hm [], Ar "_law_gates" "_law_gates" MT [], Ar "_law_whole" "_law_whole" MJ [], Ar "_law_numbers" "_law_numbers" He [], Ar "_law_would" "_law_would" Me [], Ar "_law_refusal" "_law_refusal" Ha []]
noncomputable def obs21 (K : PySem.W.Frag) : List (Seen) := [A9 K "_law_done", A9 K "_law_kept", A9 K "_law_step", A9 K "_law_how", A9 K "_law_laid", A9 K "_law_menu", A9 K "_law_deed", A9 K "_law_picked"]
noncomputable def val21 : List (Seen) := [Ar "_law_done" "_law_done" No [], Ar "_law_kept" "_law_kept" Oj [], Ar "_law_step" "_law_step" Oi [], Ar "_law_how" "_law_how" RN [], Ar "_law_laid" "_law_laid" OG [], Ar "_law_menu" "_law_menu" Nr [], Ar "_law_deed" "_law_deed" Nu [], Ar "_law_picked" "_law_picked" Kb []]
noncomputable def obs22 (K : PySem.W.Frag) : List (Seen) := [A9 K "_law_gcd", A9 K "_law_throw", A9 K "_law_gap", A9 K "_law_by", A9 K "_law_list", A9 K "_law_standing", A9 K "_law_again", A9 K "_law_all_again"]
noncomputable def val22 : List (Seen) := [Ar "_law_gcd" "_law_gcd" Q3 [], Ar "_law_throw" "_law_throw" Ma [], Ar "_law_gap" "_law_gap" RE [], Ar "_law_by" "_law_by" TV [], Ar "_law_list" "_law_list" OE [], Ar "_law_standing" "_law_standing" Fo [], Ar "_law_again" "_law_again" ME [], Ar "_law_all_again" "_law_all_again" Ek []]
noncomputable def obs23 (K : PySem.W.Frag) : List (Seen) := [A9 K "law"]
noncomputable def val23 : List (Seen) := [Ar "law" "law" T7 []]
noncomputable def obs24 (K : PySem.W.Frag) : List (Option Int) := [Rc K "LEAST", Rc K "GREATEST", Rc K "MOST_GATES", Rc K "MOST_DEEDS", Rc K "SMALL_BEACH", Rc K "GREAT_NUMBER"]
noncomputable def val24 : List (Option Int) := [some (-1000), some (1000), some (40), some (300), some (12), some (999999999)]
noncomputable def Td (K : PySem.W.Frag) : List (Bool) × List (Bool) × List (Bool) × List (Bool) × List (Option Bool) × List (Option Bool) × List (Option Bool) × List (Option Bool) × List (Option Bool) × List (Option Bool) × List (Option Bool) × List (Option Bool) × List (Option Bool) × List (Option Bool) × List (Seen) × List (Seen) × List (Seen) × List (Seen) × List (Seen) × List (Seen) × List (Seen) × List (Seen) × List (Seen) × List (Seen) × List (Option Int) := (obs0 K, obs1 K, obs2 K, obs3 K, obs4 K, obs5 K, obs6 K, obs7 K, obs8 K, obs9 K, obs10 K, obs11 K, obs12 K, obs13 K, obs14 K, obs15 K, obs16 K, obs17 K, obs18 K, obs19 K, obs20 K, obs21 K, obs22 K, obs23 K, obs24 K)
noncomputable def Ui : List (Bool) × List (Bool) × List (Bool) × List (Bool) × List (Option Bool) × List (Option Bool) × List (Option Bool) × List (Option Bool) × List (Option Bool) × List (Option Bool) × List (Option Bool) × List (Option Bool) × List (Option Bool) × List (Option Bool) × List (Seen) × List (Seen) × List (Seen) × List (Seen) × List (Seen) × List (Seen) × List (Seen) × List (Seen) × List (Seen) × List (Seen) × List (Option Int) := (val0, val1, val2, val3, val4, val5, val6, val7, val8, val9, val10, val11, val12, val13, val14, val15, val16, val17, val18, val19, val20, val21, val22, val23, val24)
noncomputable def Xj (w : World) (os : PySem.OsState) := MI PySem.Challenge.pw_throwgate_k45_whole_told_again qv L7 (fun _ => ()) 5224 w os
noncomputable def UP := some (true, PySem.W.openGood qv L7, ())
noncomputable def Xc (w : World) (os : PySem.OsState) := Vl PySem.Challenge.pw_throwgate_k45_whole_told_again (fun s => (LM.Hh (Th s.tree s.n Fk), Td (Uw addrs s))) 5224 w os
noncomputable def UR := some (true, Ui)
theorem VE : Xj = Xj := rfl
theorem TW : UP = UP := rfl
name_quick runAY for TG.Xj by TG.VE
name_quick goodAY for TG.UP by TG.TW
theorem runA0 (w : World) (os : PySem.OsState) : PySem.W.Fast.runAY w os = PySem.W.Fast.goodAY := by kernel_rfl
theorem runA1 (w : World) (os : PySem.OsState) : Xj w os = UP := ((congrFun (congrFun PySem.W.Fast.runAY_eq w) os).trans (runA0 w os)).trans PySem.W.Fast.goodAY_eq.symm
theorem U5 : Xc = Xc := rfl
theorem S7 : UR = UR := rfl
name_quick runBY for TG.Xc by TG.U5
name_quick goodBY for TG.UR by TG.S7
theorem runB0 (w : World) (os : PySem.OsState) : PySem.W.Fast.runBY w os = PySem.W.Fast.goodBY := by kernel_rfl
theorem runB1 (w : World) (os : PySem.OsState) : Xc w os = UR := ((congrFun (congrFun PySem.W.Fast.runBY_eq w) os).trans (runB0 w os)).trans PySem.W.Fast.goodBY_eq.symm
theorem runs (w : World) (os : PySem.OsState) : MI PySem.Challenge.pw_throwgate_k45_whole_told_again qv L7 (fun s => (LM.Hh (Th s.tree s.n Fk), Td (Uw addrs s))) 5224 w os = some (true, PySem.W.openGood qv L7, (true, Ui)) := TJ (runA1 w os) (runB1 w os)
theorem left : PySem.W.LeftO PySem.Challenge.pw_throwgate_k45_whole_told_again qv L7 (fun _ => true) (fun s => (LM.Hh (s.heap.get? Fk), Td (Kof addrs s.heap))) (fun _ => (true, Ui)) 10508 :=
 Xo (M := 5224) (obs := fun s => (LM.Hh (Th s.tree s.n Fk), Td (Uw addrs s))) (by kernel_rfl) rfl (fun _ => rfl) rfl (fun s => LM.Vk s) runs
set_option genInjectivity false in
structure Tx (K : PySem.W.Frag) (mg : Str → Option Value) where
 AS : Addr
 Xv : mg "Beach" = some (.ref AS)
 AV : Cls K AS
 Aj : Hq K AS "standing"
 BK : Hq K AS "past"
 Dg : Addr
 Xs : mg "BeachError" = some (.ref Dg)
 XO : Fx K Dg
 Aw : Addr
 RS : mg "NoGate" = some (.ref Aw)
 WF : Fx K Aw
 A2 : Addr
 T8 : mg "Taken" = some (.ref A2)
 Xu : Fx K A2
 Ac : Addr
 Lv : mg "UpsideDown" = some (.ref Ac)
 RL : Fx K Ac
 Aa : Addr
 Eu : mg "OutOfBounds" = some (.ref Aa)
 Ju : Fx K Aa
 Ah : Addr
 My : mg "BeachFull" = some (.ref Ah)
 SV : Fx K Ah
 Af : Addr
 M0 : mg "DeedsFull" = some (.ref Af)
 SK : Fx K Af
 Ab : Addr
 Jr : mg "NothingBack" = some (.ref Ab)
 O1 : Fx K Ab
 BW : Addr
 ML : mg "BadList" = some (.ref BW)
 Mr : Fx K BW
 Bq : Addr
 Vt : mg "TooFew" = some (.ref Bq)
 WP : Fx K Bq
 A8 : Addr
 R1 : mg "WrongSize" = some (.ref A8)
 Sk : Fx K A8
 BF : Addr
 OH : mg "BadThrow" = some (.ref BF)
 Na : Fx K BF
 NL : PySem.W.exmOne K (.ref Aw) (.ref Aw) = some true
 Oc : PySem.W.exmOne K (.ref Aw) (.ref A2) = some false
 Iu : PySem.W.exmOne K (.ref Aw) (.ref Ac) = some false
 HI : PySem.W.exmOne K (.ref Aw) (.ref Aa) = some false
 Ke : PySem.W.exmOne K (.ref Aw) (.ref Ah) = some false
 KP : PySem.W.exmOne K (.ref Aw) (.ref Af) = some false
 HF : PySem.W.exmOne K (.ref Aw) (.ref Ab) = some false
 Nd : PySem.W.exmOne K (.ref A2) (.ref Aw) = some false
 O7 : PySem.W.exmOne K (.ref A2) (.ref A2) = some true
 KH : PySem.W.exmOne K (.ref A2) (.ref Ac) = some false
 Iw : PySem.W.exmOne K (.ref A2) (.ref Aa) = some false
 Ln : PySem.W.exmOne K (.ref A2) (.ref Ah) = some false
 Lo : PySem.W.exmOne K (.ref A2) (.ref Af) = some false
 Iy : PySem.W.exmOne K (.ref A2) (.ref Ab) = some false
 JA : PySem.W.exmOne K (.ref Ac) (.ref Aw) = some false
 KI : PySem.W.exmOne K (.ref Ac) (.ref A2) = some false
 Fc : PySem.W.exmOne K (.ref Ac) (.ref Ac) = some true
 Ey : PySem.W.exmOne K (.ref Ac) (.ref Aa) = some false
 GB : PySem.W.exmOne K (.ref Ac) (.ref Ah) = some false
 GJ : PySem.W.exmOne K (.ref Ac) (.ref Af) = some false
 E1 : PySem.W.exmOne K (.ref Ac) (.ref Ab) = some false
 IC : PySem.W.exmOne K (.ref Aa) (.ref Aw) = some false
 Iq : PySem.W.exmOne K (.ref Aa) (.ref A2) = some false
 Ej : PySem.W.exmOne K (.ref Aa) (.ref Ac) = some false
 EG : PySem.W.exmOne K (.ref Aa) (.ref Aa) = some true
 FC : PySem.W.exmOne K (.ref Aa) (.ref Ah) = some false
 Fh : PySem.W.exmOne K (.ref Aa) (.ref Af) = some false
 EH : PySem.W.exmOne K (.ref Aa) (.ref Ab) = some false
 KF : PySem.W.exmOne K (.ref Ah) (.ref Aw) = some false
 LD : PySem.W.exmOne K (.ref Ah) (.ref A2) = some false
 Fq : PySem.W.exmOne K (.ref Ah) (.ref Ac) = some false
 Fb : PySem.W.exmOne K (.ref Ah) (.ref Aa) = some false
 G6 : PySem.W.exmOne K (.ref Ah) (.ref Ah) = some true
 Gx : PySem.W.exmOne K (.ref Ah) (.ref Af) = some false
 E7 : PySem.W.exmOne K (.ref Ah) (.ref Ab) = some false
 J5 : PySem.W.exmOne K (.ref Af) (.ref Aw) = some false
 Lg : PySem.W.exmOne K (.ref Af) (.ref A2) = some false
 GE : PySem.W.exmOne K (.ref Af) (.ref Ac) = some false
 FX : PySem.W.exmOne K (.ref Af) (.ref Aa) = some false
 Gz : PySem.W.exmOne K (.ref Af) (.ref Ah) = some false
 G7 : PySem.W.exmOne K (.ref Af) (.ref Af) = some true
 E9 : PySem.W.exmOne K (.ref Af) (.ref Ab) = some false
 HR : PySem.W.exmOne K (.ref Ab) (.ref Aw) = some false
 Ir : PySem.W.exmOne K (.ref Ab) (.ref A2) = some false
 Eo : PySem.W.exmOne K (.ref Ab) (.ref Ac) = some false
 EE : PySem.W.exmOne K (.ref Ab) (.ref Aa) = some false
 FF : PySem.W.exmOne K (.ref Ab) (.ref Ah) = some false
 FS : PySem.W.exmOne K (.ref Ab) (.ref Af) = some false
 EF : PySem.W.exmOne K (.ref Ab) (.ref Ab) = some true
 MW : PySem.W.exmOne K (.ref BW) (.ref Aw) = some false
 NW : PySem.W.exmOne K (.ref BW) (.ref A2) = some false
 Hv : PySem.W.exmOne K (.ref BW) (.ref Ac) = some false
 G5 : PySem.W.exmOne K (.ref BW) (.ref Aa) = some false
 Iv : PySem.W.exmOne K (.ref BW) (.ref Ah) = some false
 I0 : PySem.W.exmOne K (.ref BW) (.ref Af) = some false
 G9 : PySem.W.exmOne K (.ref BW) (.ref Ab) = some false
 NU : PySem.W.exmOne K (.ref Bq) (.ref Aw) = some false
 Nt : PySem.W.exmOne K (.ref Bq) (.ref A2) = some false
 Ix : PySem.W.exmOne K (.ref Bq) (.ref Ac) = some false
 HS : PySem.W.exmOne K (.ref Bq) (.ref Aa) = some false
 KD : PySem.W.exmOne K (.ref Bq) (.ref Ah) = some false
 KZ : PySem.W.exmOne K (.ref Bq) (.ref Af) = some false
 IH : PySem.W.exmOne K (.ref Bq) (.ref Ab) = some false
 KQ : PySem.W.exmOne K (.ref A8) (.ref Aw) = some false
 Kj : PySem.W.exmOne K (.ref A8) (.ref A2) = some false
 GQ : PySem.W.exmOne K (.ref A8) (.ref Ac) = some false
 FB : PySem.W.exmOne K (.ref A8) (.ref Aa) = some false
 G4 : PySem.W.exmOne K (.ref A8) (.ref Ah) = some false
 G3 : PySem.W.exmOne K (.ref A8) (.ref Af) = some false
 FW : PySem.W.exmOne K (.ref A8) (.ref Ab) = some false
 LR : PySem.W.exmOne K (.ref BF) (.ref Aw) = some false
 Mh : PySem.W.exmOne K (.ref BF) (.ref A2) = some false
 Gy : PySem.W.exmOne K (.ref BF) (.ref Ac) = some false
 GC : PySem.W.exmOne K (.ref BF) (.ref Aa) = some false
 HJ : PySem.W.exmOne K (.ref BF) (.ref Ah) = some false
 Hf : PySem.W.exmOne K (.ref BF) (.ref Af) = some false
 F9 : PySem.W.exmOne K (.ref BF) (.ref Ab) = some false
 Hl : Addr
 GR : FuncData
 EB : D K mg "side_of_line" Dl ["place", "height", "start", "end"] Hl GR
 QS : Addr
 OZ : FuncData
 Qi : D K mg "barring" MP ["one", "two", "three"] QS OZ
 Jf : Addr
 Hj : FuncData
 Jw : D K mg "first_three" Em ["gates"] Jf Hj
 Dv : Addr
 DZ : FuncData
 Do : D K mg "greatest_divisor" CO ["one", "two"] Dv DZ
 SU : Addr
 Qd : FuncData
 K0 : D K mg "lowest" Nj ["top", "bottom"] SU Qd
 QR : Addr
 N9 : FuncData
 Ib : D K mg "compare" MH ["one", "two"] QR N9
 M6 : Addr
 Kt : FuncData
 M5 : D K mg "height_at" HX ["throw", "place"] M6 Kt
 Qh : Addr
 Oa : FuncData
 L8 : D K mg "line_by" L9 ["place", "height", "other", "second"] Qh Oa
 Rt : Addr
 Pz : FuncData
 Op : D K mg "passes" Oo ["throw", "gate"] Rt Pz
 LI : Addr
 Jm : FuncData
 L3 : D K mg "passes_all" Fs ["throw", "gates"] LI Jm
 Gd : Addr
 FQ : FuncData
 DU : D K mg "places_passed" DS ["throw", "ordered"] Gd FQ
 Ho : Addr
 Gs : FuncData
 D9 : D K mg "foot_to_head" Dp ["earlier", "later"] Ho Gs
 Gj : Addr
 FN : FuncData
 Gw : D K mg "tightest_pair" DK ["ordered"] Gj FN
 FK : Addr
 EI : FuncData
 B8 : D K mg "steepest_found" C6 ["ordered"] FK EI
 JU : Addr
 HL : FuncData
 Eg : D K mg "level_throw" Eh ["height"] JU HL
 IJ : Addr
 Ge : FuncData
 B5 : D K mg "common_throw" Du ["ordered"] IJ Ge
 OC : Addr
 NC : FuncData
 F8 : D K mg "bar_told" Kf ["gates"] OC NC
 Gi : Addr
 FA : FuncData
 Go : D K mg "throw_through" DN ["gates"] Gi FA
 Fm : Addr
 EQ : FuncData
 FI : D K mg "steepest_throw" C7 ["gates"] Fm EQ
 JB : Addr
 IN : FuncData
 JV : D K mg "turned_over" Ex ["gate"] JB IN
 IG : Addr
 Gv : FuncData
 IE : D K mg "turned_throw" ED ["throw"] IG Gv
 FM : Addr
 EU : FuncData
 E8 : D K mg "flattest_throw" C2 ["gates"] FM EU
 OB : Addr
 M9 : FuncData
 KG : D K mg "run_told" J4 ["run", "throw"] OB M9
 Jq : Addr
 Hu : FuncData
 JK : D K mg "fewest_runs" E6 ["gates"] Jq Hu
 Hg : Addr
 Gu : FuncData
 HZ : D K mg "tried_throws" EC ["ordered"] Hg Gu
 LL : Addr
 Ei : FuncData
 Ko : D K mg "most_gates" GG ["gates"] LL Ei
 RH : Addr
 PJ : LM.Sn K mg Ei.code RH 330
 LZ : Addr
 Je : FuncData
 F4 : D K mg "check_gate" F2 ["gate"] LZ Je
 Hn : Addr
 Ga : FuncData
 HN : D K mg "check_places" D5 ["places"] Hn Ga
 Jl : Addr
 IA : FuncData
 Jk : D K mg "check_throw" E2 ["throw"] Jl IA
 GP : Addr
 JQ : FuncData
 LH : DM K AS "__init__" "Beach.__init__" Fu ["self"] GP JQ
 Ff : Addr
 ER : FuncData
 Ct : DM K AS "has_gate" "Beach.has_gate" C5 ["self", "place"] Ff ER
 Gf : Addr
 Fe : FuncData
 BG : DM K AS "gate_at" "Beach.gate_at" DX ["self", "place"] Gf Fe
 GX : Addr
 FR : FuncData
 BE : DM K AS "do_deed" "Beach.do_deed" DV ["self", "place", "instead"] GX FR
 Mw : Addr
 LX : FuncData
 HP : DM K AS "put" "Beach.put" ID ["self", "place", "foot", "head"] Mw LX
 Lj : Addr
 JE : FuncData
 GI : DM K AS "take" "Beach.take" Ft ["self", "place"] Lj JE
 L4 : Addr
 JG : FuncData
 Cc : DM K AS "lift" "Beach.lift" F3 ["self", "place", "foot_by", "head_by"] L4 JG
 K1 : Addr
 Jb : FuncData
 GM : DM K AS "sink" "Beach.sink" GO ["self", "place", "foot_by", "head_by"] K1 Jb
 Ld : Addr
 JC : FuncData
 CC : DMD K AS "back" "Beach.back" F1 ["self", "many"] Ld JC [.int 1]
 JP : Addr
 HH : FuncData
 Pg : DM K AS "gates" "Beach.gates" E3 ["self"] JP HH
 Jg : Addr
 IF : FuncData
 Oy : DM K AS "deeds" "Beach.deeds" E4 ["self"] Jg IF
 FJ : Addr
 EV : FuncData
 Bf : DM K AS "gates_at" "Beach.gates_at" C8 ["self", "places"] FJ EV
 DI : Addr
 Cm : FuncData
 BB : DM K AS "two_gates_at" "Beach.two_gates_at" B6 ["self", "places"] DI Cm
 Gh : Addr
 Fl : FuncData
 DQ : DM K AS "through" "Beach.through" DW ["self", "places"] Gh Fl
 Fj : Addr
 ET : FuncData
 Cu : DM K AS "steepest" "Beach.steepest" Cv ["self", "places"] Fj ET
 FZ : Addr
 ES : FuncData
 C9 : DM K AS "flattest" "Beach.flattest" Cy ["self", "places"] FZ ES
 Ly : Addr
 Ji : FuncData
 F0 : DM K AS "runs" "Beach.runs" Fv ["self"] Ly Ji
 Lh : Addr
 JZ : FuncData
 Fw : DM K AS "most" "Beach.most" GF ["self"] Lh JZ
 Hw : Addr
 GV : FuncData
 B4 : DM K AS "passed" "Beach.passed" D6 ["self", "throw"] Hw GV
 V6 : Addr
 UN : FuncData
 Mf : D K mg "_law_at" Te ["_law_script", "_law_k"] V6 UN
 OY : Addr
 Mu : FuncData
 CP : D K mg "_law_spread" KN ["_law_cell", "_law_many", "_law_mixed"] OY Mu
 M7 : Addr
 Lp : FuncData
 NE : D K mg "_law_heights" Hm ["_law_kind", "_law_line", "_law_wide", "_law_low", "_law_high"] M7 Lp
 Ps : Addr
 Od : FuncData
 QY : D K mg "_law_gates" MT ["_law_script", "_law_at_here", "_law_many"] Ps Od
 QL : Addr
 OJ : FuncData
 FU : D K mg "_law_whole" MJ ["_law_found"] QL OJ
 NG : Addr
 K7 : FuncData
 Mz : D K mg "_law_numbers" He ["_law_found", "_law_due"] NG K7
 QO : Addr
 OP : FuncData
 IU : D K mg "_law_would" Me ["_law_stands", "_law_deed_here"] QO OP
 ND : Addr
 LK : FuncData
 NF : D K mg "_law_refusal" Ha ["_law_stands", "_law_past", "_law_deed_here"] ND LK
 SI : Addr
 QD : FuncData
 R9 : D K mg "_law_done" No ["_law_beach", "_law_deed_here"] SI QD
 SQ : Addr
 QC : FuncData
 Rx : D K mg "_law_kept" Oj ["_law_stands", "_law_past", "_law_deed_here"] SQ QC
 Si : Addr
 QE : FuncData
 LF : D K mg "_law_step" Oi ["_law_beach", "_law_stands", "_law_past", "_law_deed_here"] Si QE
 UG : Addr
 RQ : FuncData
 Qw : D K mg "_law_how" RN ["_law_script"] UG RQ
 SM : Addr
 QN : FuncData
 SC : D K mg "_law_laid" OG ["_law_beach", "_law_stands", "_law_past", "_law_script", "_law_most"] SM QN
 RV : Addr
 Qf : FuncData
 IK : D K mg "_law_menu" Nr ["_law_draw"] RV Qf
 Ro : Addr
 QQ : FuncData
 RY : D K mg "_law_deed" Nu ["_law_script", "_law_k", "_law_stands", "_law_past"] Ro QQ
 Nv : Addr
 M3 : FuncData
 Nh : D K mg "_law_picked" Kb ["_law_script", "_law_k", "_law_stands", "_law_most"] Nv M3
 T3 : Addr
 Rh : FuncData
 Tz : D K mg "_law_gcd" Q3 ["_law_one", "_law_two"] T3 Rh
 P3 : Addr
 Nz : FuncData
 QP : D K mg "_law_throw" Ma ["_law_found"] P3 Nz
 UD : Addr
 SN : FuncData
 Q7 : D K mg "_law_gap" RE ["_law_throw_here", "_law_place", "_law_height"] UD SN
 WB : Addr
 UB : FuncData
 Wa : D K mg "_law_by" TV ["_law_throw_here", "_law_gate"] WB UB
 R6 : Addr
 P5 : FuncData
 OR : D K mg "_law_list" OE ["_law_found", "_law_due"] R6 P5
 Lx : Addr
 JW : FuncData
 K8 : D K mg "_law_standing" Fo ["_law_stands"] Lx JW
 Pu : Addr
 N0 : FuncData
 IR : D K mg "_law_again" ME ["_law_beach", "_law_stands", "_law_throw_here", "_law_places"] Pu N0
 Jy : Addr
 HD : FuncData
 JY : D K mg "_law_all_again" Ek ["_law_beach", "_law_stands", "_law_places"] Jy HD
 X0 : Addr
 Ve : FuncData
 d_law : D K mg "law" T7 ["_law_script"] X0 Ve
 Of : Mk K AS GP
 UQ : Value
 Xe : mg "LEAST" = some UQ
 Xg : RelV (.int (-1000)) UQ
 N2 : Value
 Tu : mg "GREATEST" = some N2
 TX : RelV (.int (1000)) N2
 LN : Value
 Lb : mg "MOST_GATES" = some LN
 Lr : RelV (.int (40)) LN
 K4 : Value
 Qu : mg "MOST_DEEDS" = some K4
 Qq : RelV (.int (300)) K4
 J3 : Value
 PB : mg "SMALL_BEACH" = some J3
 Pb : RelV (.int (12)) J3
 IB : Value
 HY : mg "GREAT_NUMBER" = some IB
 HV : RelV (.int (999999999)) IB
 ON : mg "abs" = none
 z_all : mg "all" = none
 bU : mg "bool" = none
 ZW : mg "dict" = none
 HQ : mg "enumerate" = none
 T4 : mg "int" = none
 CF : mg "isinstance" = none
 Az : mg "len" = none
 MS : mg "list" = none
 Rv : mg "max" = none
 Xx : mg "min" = none
 CM : mg "range" = none
 z_set : mg "set" = none
 Bh : mg "sorted" = none
 RO : mg "tuple" = none
noncomputable def Tx.err {K : PySem.W.Frag} {mg : Str → Option Value} (T : Tx K mg) : Err → Value
 | .nogate => .ref T.Aw
 | .taken => .ref T.A2
 | .upside => .ref T.Ac
 | .bounds => .ref T.Aa
 | .full => .ref T.Ah
 | .deeds => .ref T.Af
 | .nothing => .ref T.Ab
 | .badlist => .ref T.BW
 | .few => .ref T.Bq
 | .size => .ref T.A8
 | .badthrow => .ref T.BF
 | _ => .none
section
variable {P : Program} {w : World} {K : PySem.W.Frag} {mg : Str → Option Value} {base : Heap}
theorem DT : AO ["place", "height", "start", "end", "steps", "gain"] ["place", "height", "start", "end"] (AG Dl) := by walk_at "SC"
noncomputable def GU (K : PySem.W.Frag) : Sp := fun vs H Q _ => ∃ (s e : Addr) (pl h s0 s1 e0 e1 : Int), vs = [.int pl, .int h, .ref s, .ref e] ∧ SqT K H s [.int s0, .int s1] ∧ SqT K H e [.int e0, .int e1] ∧ pl.natAbs ≤ 1000 ∧ h.natAbs ≤ 1000 ∧ s0.natAbs ≤ 1000 ∧ s1.natAbs ≤ 1000 ∧ e0.natAbs ≤ 1000 ∧ e1.natAbs ≤ 1000 ∧ Q (.int ((h - s1) * (e0 - s0) - (e1 - s1) * (pl - s0))) H
theorem Gn (T : Tx K mg) : Ao P w K mg base CX0 1 T.Hl T.GR ["place", "height", "start", "end"] (GU K) := by
 refine T.EB.F.ok DT (fun vs H Q E h => ?_) (fun cdv A outer s H vs Q E hr h => ?_)
 ·obtain ⟨s, e, pl, h, s0, s1, e0, e1, rfl, hs, he, b1, b2, b3, b4, b5, b6, k⟩ := h
  rfl
 ·obtain ⟨s, e, pl, h, s0, s1, e0, e1, rfl, hs, he, b1, b2, b3, b4, b5, b6, k⟩ := h
  have hu := Ad hr
  refine ⟨_, (AD (pst 4 DT (AF Al (pxi AK (pv 3) AB) (pxi AK (pv 2) AB)))
   (AD (pst 5 DT (AF Al (pxi AK (pv 3) AB) (pxi AK (pv 2) AB)))
   (AE (AH (AF Al (AF Bm (AF Al (pv 1) (pxi AK (pv 2) AB)) (pv 4)) (AF Bm (pv 5) (AF Al (pv 0) (pxi AK (pv 2) AB)))))))), ?_⟩
  walk_at "RD"
  walk_at "AUTO"
  exact k
theorem Tn : AO ["one", "two", "three"] ["one", "two", "three"] (AG MP) := by walk_at "SC"
noncomputable def Os (K : PySem.W.Frag) : Sp := fun vs H Q _ => ∃ (x y z : Addr) (a b c : G), vs = [.ref x, .ref y, .ref z] ∧ SqT K H x (G.vs a) ∧ SqT K H y (G.vs b) ∧ SqT K H z (G.vs c) ∧ OkG a ∧ OkG b ∧ OkG c ∧ a.p < b.p ∧ b.p < c.p ∧ ∀ H', AI H H' → Q (.str (Xd a b c)) H'
theorem TN (T : Tx K mg) : Ao P w K mg base CX0 2 T.QS T.OZ ["one", "two", "three"] (Os K) := by
 refine T.Qi.F.ok Tn (fun vs H Q E h => ?_) (fun cdv A outer s H vs Q E hr h => ?_)
 ·obtain ⟨x, y, z, a, b, c, rfl, ex, ey, ez, o1, o2, o3, l1, l2, k⟩ := h
  rfl
 ·obtain ⟨x, y, z, a, b, c, rfl, ex, ey, ez, o1, o2, o3, l1, l2, k⟩ := h
  have hu := Ad hr
  refine ⟨_, (AD (AY (ptc Cq (pcl T.EB (Gn T) hr AW (AA (pxi AK (pv 1) AB) (AA (pxi AK (pv 1) AB) (AA (Ai (AA (pxi AK (pv 0) AB) (AA (pxi AK (pv 0) AB) AC))) (AA (Ai (AA (pxi AK (pv 2) AB) (AA (pxi AK (pv 2) AB) AC))) AC))))) AB) (AE (AH AX))
    AL)
   (AD (AY (ptc Da (pcl T.EB (Gn T) hr AW (AA (pxi AK (pv 1) AB) (AA (pxi AK (pv 1) AB) (AA (Ai (AA (pxi AK (pv 0) AB) (AA (pxi AK (pv 0) AB) AC))) (AA (Ai (AA (pxi AK (pv 2) AB) (AA (pxi AK (pv 2) AB) AC))) AC))))) AB) (AE (AH AX))
    AL)
   (AE (AH AX)))), ?_⟩
  obtain ⟨p1, p2, p3, p4, p5⟩ := id o1
  obtain ⟨q1, q2, q3, q4, q5⟩ := id o2
  obtain ⟨r1, r2, r3, r4, r5⟩ := id o3
  have eF : (0 < (b.f - a.h) * (c.p - a.p) - (c.h - a.h) * (b.p - a.p)) ↔ B7 a b c := by
   unfold B7
   have e : (b.f - a.h) * (c.p - a.p) - (c.h - a.h) * (b.p - a.p) = b.f * (c.p - a.p) - (a.h * (c.p - b.p) + c.h * (b.p - a.p)) := by grind
   rw [e]
   lia
  have eH : ((b.h - a.f) * (c.p - a.p) - (c.f - a.f) * (b.p - a.p) < 0) ↔ CD a b c := by
   unfold CD
   have e : (b.h - a.f) * (c.p - a.p) - (c.f - a.f) * (b.p - a.p) = b.h * (c.p - a.p) - (a.f * (c.p - b.p) + c.f * (b.p - a.p)) := by grind
   rw [e]
   lia
  walk_at "RD"
  walk_at "AUTO"
  unfold GU
  refine ⟨_, _, _, _, _, _, _, _, rfl, (by walk_at "SQT4"), (by walk_at "SQT4"), by lia, by lia, by lia, by lia, by lia, by lia, ?_⟩
  refine ⟨_, rfl, ?_⟩
  unfold Xd at k
  by_cases hf : B7 a b c
  ·rw [if_pos (decide_eq_true (eF.mpr hf))]
   rw [if_pos hf] at k
   exact k _ (by walk_at "SAME5")
  ·rw [if_neg (fun z => hf (eF.mp (of_decide_eq_true z)))]
   rw [if_neg hf] at k
   walk_at "AUTO"
   refine ⟨_, _, _, _, _, _, _, _, rfl, (by walk_at "SQT4"), (by walk_at "SQT4"), by lia, by lia, by lia, by lia, by lia, by lia, ?_⟩
   refine ⟨_, rfl, ?_⟩
   by_cases hh : CD a b c
   ·rw [if_pos (decide_eq_true (eH.mpr hh))]
    rw [if_pos hh] at k
    exact k _ (by walk_at "SAME5")
   ·rw [if_neg (fun z => hh (eH.mp (of_decide_eq_true z)))]
    rw [if_neg hh] at k
    exact k _ (by walk_at "SAME5")
theorem Bi : AO ["gates", "ordered", "count", "first", "middle", "last"] ["gates"] (AG Em) := by walk_at "SC"
noncomputable def Hi (K : PySem.W.Frag) : Sp := fun vs H Q _ => ∃ (l : Addr) (as : List Addr) (gs : List G), vs = [.ref l] ∧ SqL K H l (as.map V.ref) ∧ At H as gs ∧ (gs.map G.p).Nodup ∧ gs.length ≤ 40 ∧ (∀ g ∈ gs, OkG g) ∧ (∀ H', AI H H' → KS gs [] → Q .non H') ∧ ∀ D H' t, AI H H' → H' D = some (.tup (t.map V.int)) → t ≠ [] → KS gs t → Q (.ref D) H'
theorem R0 {a b c : G} : Xd a b c = "" ↔ ¬ OV a b c := by
 unfold Xd OV
 by_cases hf : B7 a b c
 ·rw [if_pos hf]
  exact ⟨fun z => absurd z (by decide), fun z => absurd (.inl hf) z⟩
 ·rw [if_neg hf]
  by_cases hh : CD a b c
  ·rw [if_pos hh]
   exact ⟨fun z => absurd z (by decide), fun z => absurd (.inr hh) z⟩
  ·rw [if_neg hh]
   exact ⟨fun _ z => z.elim hf hh, fun _ => rfl⟩
noncomputable def Vf1 (l D : Addr) (n : Int) (sg : List G) (H : Hp) : Nat → St → Hp → Prop := fun i σ H' => ∃ x y z, σ = [some (.ref l), some (.ref D), some (.int n), x, y, z] ∧ AI H H' ∧ A7 sg i 0 0
noncomputable def Vf2 (l D : Addr) (n : Int) (sg : List G) (H : Hp) (i : Nat) : Nat → St → Hp → Prop := fun t σ H' => ∃ y z, σ = [some (.ref l), some (.ref D), some (.int n), some (.int (0 + (i : Int))), y, z] ∧ AI H H' ∧ A7 sg i (i + 1 + t) 0
noncomputable def Vf3 (l D : Addr) (n : Int) (sg : List G) (H : Hp) (i j : Nat) : Nat → St → Hp → Prop := fun t σ H' => ∃ z, σ = [some (.ref l), some (.ref D), some (.int n), some (.int (0 + (i : Int))), some (.int (0 + (i : Int) + 1 + (j : Int))), z] ∧ AI H H' ∧ A7 sg i (i + 1 + j) (i + 1 + j + 1 + t)
theorem Og (T : Tx K mg) : Ao P w K mg base CX0 3 T.Jf T.Hj ["gates"] (Hi K) := by
 refine T.Jw.F.ok Bi (fun vs H Q E h => ?_) (fun cdv A outer s H vs Q E hr h => ?_)
 ·obtain ⟨l, as0, gs0, rfl, hl0, ga0, nd, h64, ok0, kn, kk⟩ := h
  rfl
 ·obtain ⟨l, as0, gs0, rfl, hl0, ga0, nd, h64, ok0, kn, kk⟩ := h
  have hu := Ad hr
  refine ⟨_, (AD (pst 1 Bi (AJ Bn (by rfl) T.Bh BN (AA (pv 0) AC)))
   (AD (pst 2 Bi (AJ AT (by rfl) T.Az Ap (AA (pv 1) AC)))
   (AD (BA PassesOwn.never rfl (CG (by rfl) T.CM (AA (pv 2) AC)) (pgn 3 Bi)
    (AE (BA PassesOwn.never rfl (L6 (by rfl) T.CM (AA (AF Ak (pv 3) AB) (AA (pv 2) AC))) (pgn 4 Bi)
      (AE (BA PassesOwn.never rfl (L6 (by rfl) T.CM (AA (AF Ak (pv 4) AB) (AA (pv 2) AC))) (pgn 5 Bi)
        (AE (AY (ptc Dq (pcl T.Qi (TN T) hr AW (AA (pxi AM (pv 1) (pv 3)) (AA (pxi AM (pv 1) (pv 4)) (AA (pxi AM (pv 1) (pv 5)) AC)))) AX) (AE (AH (Ai (AA (pxi AK (pxi AM (pv 1) (pv 3)) AB) (AA (pxi AK (pxi AM (pv 1) (pv 4)) AB) (AA (pxi AK (pxi AM (pv 1) (pv 5)) AB) AC))))))
          AL)))))))
   (AE (AH GD))))), ?_⟩
  walk_at "RD"
  walk_at "AUTO"
  intro D H1 as gs nD s1 e1 ga hp ha
  have ok : ∀ g ∈ gs, OkG g := fun g hg => ok0 g (hp.mem_iff.mp hg)
  have la := ga.len
  have lg := hp.length_eq
  have hlm : (as.map V.ref).length = gs.length := by rw [List.length_map, la]
  have sl := SqL.of (K := K) e1
  refine ⟨_, Or.inl sl, ?_⟩
  rw [hlm]
  refine ⟨_, rfl, (gs.length : Int), rfl, by lia, by lia, BV (Vf1 l D gs.length gs H1) ⟨none, none, none, rfl, AI.refl _, Vw gs⟩ ?_ ?_⟩
  ·rintro i σ H2 hi ⟨x, y, z, rfl, t2, n1⟩
   have hi' : i < gs.length := by lia
   refine ⟨_, rfl, _, _, rfl, rfl, _, rfl, _, _, rfl, ⟨by lia, by lia, by lia, by lia⟩, BV (Vf2 l D gs.length gs H1 i) ⟨_, _, rfl, t2, au n1⟩ ?_ ?_⟩
   ·rintro j σ H3 hj ⟨y, z, rfl, t3, n2⟩
    have hj' : i + 1 + j < gs.length := by lia
    refine ⟨_, rfl, _, _, rfl, rfl, _, rfl, _, _, rfl, ⟨by lia, by lia, by lia, by lia⟩, BV (Vf3 l D gs.length gs H1 i j) ⟨_, rfl, t3, na_in n2⟩ ?_ ?_⟩
    ·rintro u σ H4 hu' ⟨z, rfl, t4, n3⟩
     have hk' : i + 1 + j + 1 + u < gs.length := by lia
     obtain ⟨a1, ha1, t1'⟩ := ga.get (List.getElem?_eq_getElem hi')
     obtain ⟨a2, ha2, t2'⟩ := ga.get (List.getElem?_eq_getElem hj')
     obtain ⟨a3, ha3, t3'⟩ := ga.get (List.getElem?_eq_getElem hk')
     have t1 := t4.get t1'
     have t2 := t4.get t2'
     have t3 := t4.get t3'
     have i1 : atI (as.map V.ref) (0 + (i : Int)) = some (V.ref a1) := by rw [Int.zero_add]; exact Cb ha1
     have i2 : atI (as.map V.ref) (0 + (i : Int) + 1 + (j : Int)) = some (V.ref a2) := by rw [show 0 + (i : Int) + 1 + (j : Int) = ((i + 1 + j : Nat) : Int) by lia]; exact Cb ha2
     have i3 : atI (as.map V.ref) (0 + (i : Int) + 1 + (j : Int) + 1 + (u : Int)) = some (V.ref a3) := by rw [show 0 + (i : Int) + 1 + (j : Int) + 1 + (u : Int) = ((i + 1 + j + 1 + u : Nat) : Int) by lia]; exact Cb ha3
     have o1 := ok _ (List.getElem_mem hi')
     have o2 := ok _ (List.getElem_mem hj')
     have o3 := ok _ (List.getElem_mem hk')
     have g1 := DR ha (List.getElem?_eq_getElem hi') (List.getElem?_eq_getElem hj') (by lia)
     have g2 := DR ha (List.getElem?_eq_getElem hj') (List.getElem?_eq_getElem hk') (by lia)
     have sl4 := t4.seq sl
     walk_at "RD"
     walk_at "AUTO"
     unfold Os
     refine ⟨_, _, _, gs[i], gs[i + 1 + j], gs[i + 1 + j + 1 + u], rfl, SqT.of t1, SqT.of t2, SqT.of t3, o1, o2, o3, g1, g2, fun H5 s5 => ?_⟩
     have t5 := t4.trans s5
     have e1 := s5.get t1
     have e2 := s5.get t2
     have e3 := s5.get t3
     have sl5 := s5.seq sl4
     refine ⟨rfl, ?_⟩
     by_cases hb : OV gs[i] gs[i + 1 + j] gs[i + 1 + j + 1 + u]
     ·rw [decide_eq_false (fun z => R0.mp (V.str.inj z) hb)]
      walk_at "AUTO"
      exact kk p H' [gs[i].p, gs[i + 1 + j].p, gs[i + 1 + j + 1 + u].p] (s1.trans (t5.trans hs)) he (by simp) (.perm (.yes gs (List.Perm.refl _) ha i (i + 1 + j) (i + 1 + j + 1 + u) _ _ _ ⟨⟨by lia, by lia, _, _, _, List.getElem?_eq_getElem hi', List.getElem?_eq_getElem hj', List.getElem?_eq_getElem hk', hb⟩, n3⟩ (List.getElem?_eq_getElem hi') (List.getElem?_eq_getElem hj') (List.getElem?_eq_getElem hk') rfl) hp)
     ·rw [decide_eq_true (congrArg V.str (R0.mpr hb))]
      refine ⟨_, rfl, t5, XU n3 fun ⟨_, _, a, b, c, f1, f2, f3, f4⟩ => hb ?_⟩
      rw [List.getElem?_eq_getElem hi'] at f1
      rw [List.getElem?_eq_getElem hj'] at f2
      have f3 : gs[i + 1 + j + 1 + u]? = some c := f3
      rw [List.getElem?_eq_getElem hk'] at f3
      cases f1
      cases f2
      cases f3
      exact f4
    ·rintro σ H4 ⟨z, rfl, t4, n3⟩
     exact ⟨_, _, rfl, t4, U0 (by lia) n3⟩
   ·rintro σ H3 ⟨y, z, rfl, t3, n2⟩
    exact ⟨_, _, _, rfl, t3, Tt (by lia) n2⟩
  ·rintro σ H2 ⟨x, y, z, rfl, t2, n1⟩
   walk_at "RD"
   exact kn _ (s1.trans t2) (.perm (.no gs (List.Perm.refl _) ha (na_no n1) rfl) hp)
theorem A5 : AO ["one", "two", "divisor", "rest", "next_rest"] ["one", "two"] (AG CO) := by walk_at "SC"
noncomputable def Dc : Sp := fun vs H Q _ => ∃ a b : Int, vs = [.int a, .int b] ∧ 0 ≤ a ∧ 0 ≤ b ∧ Q (.int (Int.gcd a b)) H
noncomputable def W_gd (a b : Int) (H : Hp) : Nat → St → Hp → Prop := fun m σ H' => ∃ (d r : Int) (x : Option V), m = r.toNat ∧ σ = [some (.int a), some (.int b), some (.int d), some (.int r), x] ∧ H' = H ∧ 0 ≤ d ∧ 0 ≤ r ∧ Int.gcd d r = Int.gcd a b
theorem Iz (T : Tx K mg) : Ao P w K mg base CX0 1 T.Dv T.DZ ["one", "two"] Dc := by
 refine T.Do.F.ok A5 (fun vs H Q E h => ?_) (fun cdv A outer s H vs Q E hr h => ?_)
 ·obtain ⟨a, b, rfl, ha, hb, k⟩ := h
  rfl
 ·obtain ⟨a, b, rfl, ha, hb, k⟩ := h
  have hu := Ad hr
  refine ⟨_, (AD (pst 2 A5 (pv 0))
   (AD (pst 3 A5 (pv 1))
   (AD (SW PassesOwn.never (ptc Dq (pv 3) AB)
    (AD (pst 4 A5 (AF T1 (pv 2) (pv 3)))
     (AD (pst 2 A5 (pv 3))
     (AE (pst 3 A5 (pv 4))))))
   (AE (AH (pv 2)))))), ?_⟩
  walk_at "RD"
  refine ⟨W_gd a b H, ⟨_, a, b, none, rfl, rfl, rfl, ha, hb, rfl⟩, ?_⟩
  rintro m σ H' ⟨d, r, x, rfl, rfl, rfl, hd, hr', e⟩
  walk_at "RDE"
  by_cases h0 : r = 0
  ·subst h0
   simp only [decide_true, Bool.not_true, Bool.false_eq_true, if_false]
   walk_at "RD"
   rw [← e, Qg hd] at k
   exact k
  ·simp only [h0, decide_false, Bool.not_false, if_true]
   refine ⟨_, fun _ _ h => h, ?_⟩
   walk_at "RD"
   have hp : 0 < r := by lia
   have hf := UJ (d := d) hp
   refine ⟨h0, _, ?_, r, d.fmod r, _, rfl, rfl, rfl, hr', hf.1, (RU hd hp).trans e⟩
   lia
theorem Mp : AO ["top", "bottom", "divisor"] ["top", "bottom"] (AG Nj) := by walk_at "SC"
noncomputable def Ih : Sp := fun vs H Q _ => ∃ t b : Int, vs = [.int t, .int b] ∧ b ≠ 0 ∧ Sm b ∧ ∀ p H' x y, AI H H' → H' p = some (.tup [.int x, .int y]) → KU t b x y → Q (.ref p) H'
noncomputable def C_lo (t b : Int) (H : Hp) : St → Hp → Prop := fun σ H' => ∃ d : Int, σ = [some (.int t), some (.int b), some (.int d)] ∧ H' = H ∧ d = if b < 0 then -((Int.gcd t b : Nat) : Int) else ((Int.gcd t b : Nat) : Int)
theorem MY (T : Tx K mg) : Ao P w K mg base CX0 2 T.SU T.Qd ["top", "bottom"] Ih := by
 refine T.K0.F.ok Mp (fun vs H Q E h => ?_) (fun cdv A outer s H vs Q E hr h => ?_)
 ·obtain ⟨t, b, rfl, hb, hs, k⟩ := h
  rfl
 ·obtain ⟨t, b, rfl, hb, hs, k⟩ := h
  have hu := Ad hr
  refine ⟨_, (AD (pst 2 Mp (pcl T.Do (Iz T) hr AW (AA (AJ Dt (by rfl) T.ON Kg (AA (pv 0) AC)) (AA (AJ Dt (by rfl) T.ON Kg (AA (pv 1) AC)) AC))))
   (BY (AY (ptc Da (pv 1) AB) (AE (pst 2 Mp (Co Bv (pv 2))))
    AL)
   (AE (AH (Ai (AA (AF Rw (pv 0) (pv 2)) (AA (AF Rw (pv 1) (pv 2)) AC))))))), ?_⟩
  delta Dc
  refine ⟨by split <;> lia, by split <;> lia, C_lo t b H, ?_, ?_⟩
  ·rw [Xq]
   walk_at "RD"
   by_cases hn : b < 0
   ·rw [if_pos (decide_eq_true hn)]
    exact ⟨_, rfl, rfl, by rw [if_pos hn]⟩
   ·rw [if_neg (by simp [hn])]
    exact ⟨_, rfl, rfl, by rw [if_neg hn]⟩
  ·rintro σ' H' ⟨d, rfl, rfl, hd⟩
   obtain ⟨L, d0⟩ := aT hb hd
   have ds : Sm d := by
    refine Nat.lt_of_le_of_lt ?_ hs
    have h1 : d.natAbs = Int.gcd t b := by rw [hd]; split <;> lia
    rw [h1]
    exact Nat.le_of_dvd (by lia) (Int.gcd_dvd_natAbs_right t b)
   walk_at "RD"
   exact ⟨d0, ds, d0, ds, by decide, fun p H1 hp hs he => k p _ _ _ hs he L⟩
theorem Ka : AO ["one", "two", "left", "right"] ["one", "two"] (AG MH) := by walk_at "SC"
noncomputable def OA (x y : Int) : Int := if x < y then -1 else if y < x then 1 else 0
noncomputable def KW (K : PySem.W.Frag) : Sp := fun vs H Q _ => ∃ (p q : Addr) (a b c d : Int), vs = [.ref p, .ref q] ∧ SqT K H p [.int a, .int b] ∧ SqT K H q [.int c, .int d] ∧ Sm a ∧ Sm b ∧ Sm c ∧ Sm d ∧ Q (.int (OA (a * d) (c * b))) H
theorem J8 (T : Tx K mg) : Ao P w K mg base CX0 1 T.QR T.N9 ["one", "two"] (KW K) := by
 refine T.Ib.F.ok Ka (fun vs H Q E h => ?_) (fun cdv A outer s H vs Q E hr h => ?_)
 ·obtain ⟨p, q, a, b, c, d, rfl, h1, h2, sa, sb, sc, sd, k⟩ := h
  rfl
 ·obtain ⟨p, q, a, b, c, d, rfl, h1, h2, sa, sb, sc, sd, k⟩ := h
  have hu := Ad hr
  refine ⟨_, (AD (pst 2 Ka (AF Bm (pxi AK (pv 0) AB) (pxi AK (pv 1) AB)))
   (AD (pst 3 Ka (AF Bm (pxi AK (pv 1) AB) (pxi AK (pv 0) AB)))
   (AD (AY (ptc Da (pv 2) (pv 3)) (AE (AH (Co Bv AB)))
    AL)
   (AD (AY (ptc Cq (pv 2) (pv 3)) (AE (AH AB))
    AL)
   (AE (AH AB)))))), ?_⟩
  walk_at "RD"
  walk_at "AUTO"
  unfold OA at k
  by_cases c1 : a * d < c * b
  ·simp only [c1, decide_true, if_true] at k ⊢
   exact k
  ·by_cases c2 : c * b < a * d
   ·simp only [c1, c2, decide_true, decide_false, Bool.false_eq_true, if_true, if_false] at k ⊢
    exact k
   ·simp only [c1, c2, decide_true, decide_false, Bool.false_eq_true, if_true, if_false] at k ⊢
    exact k
theorem CH : AO ["throw", "place", "height_top", "height_bottom", "rise_top", "rise_bottom", "top"] ["throw", "place"] (AG HX) := by walk_at "SC"
noncomputable def LU (K : PySem.W.Frag) : Sp := fun vs H Q _ => ∃ (p : Addr) (pl a b c d : Int), vs = [.ref p, .int pl] ∧ SqT K H p [.int a, .int b, .int c, .int d] ∧ 0 < b ∧ 0 < d ∧ Md a ∧ Md b ∧ Md c ∧ Md d ∧ Md pl ∧ ∀ q H' x y, AI H H' → H' q = some (.tup [.int x, .int y]) → KU (a * d + pl * c * b) (b * d) x y → Q (.ref q) H'
theorem Qv (T : Tx K mg) : Ao P w K mg base CX0 3 T.M6 T.Kt ["throw", "place"] (LU K) := by
 refine T.M5.F.ok CH (fun vs H Q E h => ?_) (fun cdv A outer s H vs Q E hr h => ?_)
 ·obtain ⟨p, pl, a, b, c, d, rfl, h1, hb, hd, ma, mb, mc, md, mp, k⟩ := h
  rfl
 ·obtain ⟨p, pl, a, b, c, d, rfl, h1, hb, hd, ma, mb, mc, md, mp, k⟩ := h
  have hu := Ad hr
  refine ⟨_, (AD (pst 2 CH (pxi AK (pv 0) AB))
   (AD (pst 3 CH (pxi AK (pv 0) AB))
   (AD (pst 4 CH (pxi AK (pv 0) AB))
   (AD (pst 5 CH (pxi AK (pv 0) AB))
   (AD (pst 6 CH (AF Ak (AF Bm (pv 2) (pv 5)) (AF Bm (AF Bm (pv 1) (pv 4)) (pv 3))))
   (AE (AH (pcl T.K0 (MY T) hr AW (AA (pv 6) (AA (AF Bm (pv 3) (pv 5)) AC)))))))))), ?_⟩
  have sa := ma.sm
  have sb := mb.sm
  have sc := mc.sm
  have sd := md.sm
  have sp := mp.sm
  have s2 := mp.mulS mc
  have s3 := mb.mulS md
  have hne : b * d ≠ 0 := Int.mul_ne_zero (by lia) (by lia)
  walk_at "Q"
  walk_at "RD"
  walk_at "AUTO"
  walk_at "NX"
  walk_at "Q"
  walk_at "RD"
  walk_at "AUTO"
  walk_at "NX"
  walk_at "Q"
  walk_at "RD"
  walk_at "AUTO"
  walk_at "NX"
  walk_at "Q"
  walk_at "RD"
  walk_at "AUTO"
  walk_at "NX"
  walk_at "Q"
  walk_at "RD"
  walk_at "AUTO"
  walk_at "NX"
  delta Ih
  walk_at "AUTO"
  exact fun q H' x y s e L => k q H' x y s e L
theorem D0 : AO ["place", "height", "other", "second", "steps", "gain", "start", "rise"] ["place", "height", "other", "second"] (AG L9) := by walk_at "SC"
noncomputable def KA : Sp := fun vs H Q _ => ∃ p0 h0 p1 h1 : Int, vs = [.int p0, .int h0, .int p1, .int h1] ∧ p0 ≠ p1 ∧ p0.natAbs ≤ 10 ^ 30 ∧ h0.natAbs ≤ 10 ^ 30 ∧ p1.natAbs ≤ 10 ^ 30 ∧ h1.natAbs ≤ 10 ^ 30 ∧
 ∀ q H' x y z v, AI H H' → H' q = some (.tup [.int x, .int y, .int z, .int v]) → KU (h0 * (p1 - p0) - p0 * (h1 - h0)) (p1 - p0) x y → KU (h1 - h0) (p1 - p0) z v → Q (.ref q) H'
theorem N4 (T : Tx K mg) : Ao P w K mg base CX0 3 T.Qh T.Oa ["place", "height", "other", "second"] KA := by
 refine T.L8.F.ok D0 (fun vs H Q E h => ?_) (fun cdv A outer s H vs Q E hr h => ?_)
 ·obtain ⟨p0, h0, p1, h1, rfl, hne, b0, b1, b2, b3, k⟩ := h
  rfl
 ·obtain ⟨p0, h0, p1, h1, rfl, hne, b0, b1, b2, b3, k⟩ := h
  have hu := Ad hr
  refine ⟨_, (AD (pst 4 D0 (AF Al (pv 2) (pv 0)))
   (AD (pst 5 D0 (AF Al (pv 3) (pv 1)))
   (AD (pst 6 D0 (pcl T.K0 (MY T) hr AW (AA (AF Al (AF Bm (pv 1) (pv 4)) (AF Bm (pv 0) (pv 5))) (AA (pv 4) AC))))
   (AD (pst 7 D0 (pcl T.K0 (MY T) hr AW (AA (pv 5) (AA (pv 4) AC))))
   (AE (AH (Ai (AA (pxi AK (pv 6) AB) (AA (pxi AK (pv 6) AB) (AA (pxi AK (pv 7) AB) (AA (pxi AK (pv 7) AB) AC))))))))))), ?_⟩
  have hs : p1 - p0 ≠ 0 := by lia
  have m1 : Sm (p1 - p0) := Sm.of (n := 10 ^ 31) (by lia) (by decide +kernel)
  have m2 : Sm (h1 - h0) := Sm.of (n := 10 ^ 31) (by lia) (by decide +kernel)
  have m3 : Sm p0 := Sm.of b0 (by decide +kernel)
  have m4 : Sm h0 := Sm.of b1 (by decide +kernel)
  walk_at "Q"
  walk_at "RD"
  walk_at "NX"
  walk_at "Q"
  walk_at "RD"
  walk_at "NX"
  walk_at "Q"
  delta Ih
  walk_at "AUTO"
  intro q1 H1 x y s1 e1 Lw1
  walk_at "NX"
  walk_at "Q"
  delta Ih
  walk_at "AUTO"
  intro q2 H2 z v s2 e2 Lw2
  walk_at "NX"
  walk_at "RD"
  walk_at "AUTO"
  exact k _ _ _ _ _ _ (by walk_at "SAME6") (by assumption) Lw1 Lw2
theorem Il : AO ["throw", "gate", "height", "foot", "head"] ["throw", "gate"] (AG Oo) := by walk_at "SC"
noncomputable def P8 (K : PySem.W.Frag) : Sp := fun vs H Q _ => ∃ (p g : Addr) (a b c d pl f h : Int), vs = [.ref p, .ref g] ∧ SqT K H p [.int a, .int b, .int c, .int d] ∧ SqT K H g [.int pl, .int f, .int h] ∧ 0 < b ∧ 0 < d ∧ a.natAbs ≤ 10 ^ 15 ∧ b.natAbs ≤ 10 ^ 15 ∧ c.natAbs ≤ 10 ^ 15 ∧ d.natAbs ≤ 10 ^ 15 ∧ pl.natAbs ≤ 10 ^ 15 ∧ f.natAbs ≤ 10 ^ 15 ∧ h.natAbs ≤ 10 ^ 15 ∧ ∀ H', AI H H' → Q (.bl (decide (Pas a b c d pl f h))) H'
theorem Qj (T : Tx K mg) : Ao P w K mg base CX0 4 T.Rt T.Pz ["throw", "gate"] (P8 K) := by
 refine T.Op.F.ok Il (fun vs H Q E h => ?_) (fun cdv A outer s H vs Q E hr h => ?_)
 ·obtain ⟨p, g, a, b, c, d, pl, f, h, rfl, hp, hg, hb, hd, b1, b2, b3, b4, b5, b6, b7, k⟩ := h
  rfl
 ·obtain ⟨p, g, a, b, c, d, pl, f, h, rfl, hp, hg, hb, hd, b1, b2, b3, b4, b5, b6, b7, k⟩ := h
  have hu := Ad hr
  refine ⟨_, (AD (pst 2 Il (pcl T.M5 (Qv T) hr AW (AA (pv 0) (AA (pxi AK (pv 1) AB) AC))))
   (AD (pst 3 Il (Ai (AA (pxi AK (pv 1) AB) (AA AB AC))))
   (AD (pst 4 Il (Ai (AA (pxi AK (pv 1) AB) (AA AB AC))))
   (AE (AH (RM (pec Sr (pcl T.Ib (J8 T) hr AW (AA (pv 3) (AA (pv 2) AC))) AB) (RD (pec Sr (pcl T.Ib (J8 T) hr AW (AA (pv 2) (AA (pv 4) AC))) AB)))))))), ?_⟩
  have md : ∀ {i : Int}, i.natAbs ≤ 10 ^ 15 → Md i := fun h => Nat.le_trans h (by decide +kernel)
  walk_at "Q"
  delta LU
  walk_at "AUTO"
  refine ⟨a, b, c, d, hp, hb, hd, md b1, md b2, md b3, md b4, md b5, fun q H1 x y s1 e1 L => ?_⟩
  have bd := CQ b2 b4
  have bt1 := CQ b1 b4
  have bt2 := CQ (CQ b5 b3) b2
  have bt : (a * d + pl * c * b).natAbs ≤ 10 ^ 46 := by lia
  have sx : Sm x := Sm.of (Nat.le_trans L.absx bt) (by decide +kernel)
  have sy : Sm y := Sm.of (Nat.le_trans L.absy bd) (by decide +kernel)
  have sf : Sm f := Sm.of b6 (by decide +kernel)
  have sh : Sm h := Sm.of b7 (by decide +kernel)
  have s0 : Sm 1 := by unfold Sm; decide +kernel
  have E := L.eq
  have hy := L.pos
  have hbd : 0 < b * d := Int.mul_pos hb hd
  walk_at "NX"
  walk_at "Q"
  walk_at "RD"
  walk_at "AUTO"
  walk_at "NX"
  walk_at "Q"
  walk_at "RD"
  walk_at "AUTO"
  walk_at "NX"
  delta KW
  walk_at "AUTO"
  refine ⟨f, 1, (by walk_at "SQT4"), x, y, (by walk_at "SQT4"), sf, s0, sx, sy, ?_⟩
  have c1 : (OA (f * y) (x * 1) ≤ 0) ↔ f * (b * d) ≤ a * d + pl * c * b := by
   rw [Int.mul_one]
   have e : OA (f * y) x ≤ 0 ↔ f * y ≤ x := by unfold OA; split <;> (try split) <;> lia
   rw [e]
   generalize a * d + pl * c * b = t at *
   generalize b * d = u at *
   exact XD hy hbd E
  have c2 : (OA (x * 1) (h * y) ≤ 0) ↔ a * d + pl * c * b ≤ h * (b * d) := by
   rw [Int.mul_one]
   have e : OA x (h * y) ≤ 0 ↔ x ≤ h * y := by unfold OA; split <;> (try split) <;> lia
   rw [e]
   generalize a * d + pl * c * b = t at *
   generalize b * d = u at *
   exact Xk hy hbd E
  by_cases g1 : f * (b * d) ≤ a * d + pl * c * b
  ·rw [if_pos (decide_eq_true (c1.mpr g1))]
   refine ⟨x, y, (by walk_at "SQT4"), h, 1, (by walk_at "SQT4"), sx, sy, sh, s0, ?_⟩
   have e : decide (OA (x * 1) (h * y) ≤ 0) = decide (Pas a b c d pl f h) := by
    unfold Pas
    simp only [c2, g1, true_and]
   rw [e]
   exact k _ (by walk_at "SAME5")
  ·rw [if_neg (by simp only [decide_eq_true_eq]; exact fun z => g1 (c1.mp z))]
   have e : decide (Pas a b c d pl f h) = false := by
    unfold Pas
    simp only [g1, false_and, decide_false]
   rw [e] at k
   exact k _ (by walk_at "SAME5")
theorem O4 : AO ["throw", "gates"] ["throw", "gates"] (AG Fs) := by walk_at "SC"
noncomputable def JH (K : PySem.W.Frag) : Sp := fun vs H Q _ => ∃ (q l : Addr) (t : Thr) (as : List Addr) (gs : List G), vs = [.ref q, .ref l] ∧ SqT K H q t.vs ∧ SqL K H l (as.map V.ref) ∧ At H as gs ∧ OkT t ∧ gs.length ≤ 1000 ∧ (∀ g ∈ gs, OkG g) ∧ ∀ H', AI H H' → Q (.bl (decide (∀ g ∈ gs, t.pas g))) H'
theorem PU (T : Tx K mg) : Ao P w K mg base CX0 5 T.LI T.Jm ["throw", "gates"] (JH K) := by
 refine T.L3.F.ok O4 (fun vs H Q E h => ?_) (fun cdv A outer s H vs Q E hr h => ?_)
 ·obtain ⟨q, l, t, as, gs, rfl, hq, hl, ga, ot, hz, ok, k⟩ := h
  rfl
 ·obtain ⟨q, l, t, as, gs, rfl, hq, hl, ga, ot, hz, ok, k⟩ := h
  have hu := Ad hr
  refine ⟨_, (AE (AH (AJ (Vs (by rfl)) (by rfl) T.z_all bv (AA (Ii rfl (⟨rfl, by decide +kernel, by decide +kernel, by decide +kernel, rfl, by decide +kernel, by with_unfolding_all rfl, by rfl, by rfl, by rfl⟩ : BI _ _ "gate" ["throw"] [0]) (BL (pv 1)) (fun _ _ _ _  => (pcl T.Op (Qj T) hr AW (AA (pv 1) (AA (pv 0) AC)))) (fun _ _ _ _ => Ik)) AC)))), ?_⟩
  delta Ec
  walk_at "AUTO"
  intro D nD
  refine QX (F := fun _ v g => v = V.bl (decide (t.pas g))) (fun _ _ _ _ _ h => h) (fun _ _ _ _ _ _ h => h) hl ga nD hz ?_ ?_
  ·intro v g H1 R hg s1 ev hR
   obtain ⟨p1, p2, p3, p4, p5⟩ := ok g hg
   delta Option.join_some
   walk_at "AUTO"
   unfold P8
   refine ⟨_, _, t.a, t.b, t.c, t.d, g.p, g.f, g.h, rfl, s1.tup hq, SqT.of ev, ot.b0, ot.d0, Nat.le_trans ot.a1 (by decide), Nat.le_trans ot.b1 (by decide), Nat.le_trans ot.c1 (by decide), Nat.le_trans ot.d1 (by decide), by lia, by lia, by lia, fun H2 s2 => hR _ _ s2 rfl⟩
  ·intro H1 ys s1 e1 pr
   have ey := Paired.eq_map pr
   subst ey
   refine ⟨gs.map fun g => decide (t.pas g), SqL.of (by rw [e1, List.map_map]; rfl), ?_⟩
   have e : (gs.map fun g => decide (t.pas g)).all id = decide (∀ g ∈ gs, t.pas g) := by
    rw [Bool.eq_iff_iff]
    simp
   rw [e]
   exact k _ s1
theorem Mi : AO ["throw", "ordered"] ["throw", "ordered"] (AG DS) := by walk_at "SC"
noncomputable def MV (K : PySem.W.Frag) : Sp := fun vs H Q _ => ∃ (q l : Addr) (a b c d : Int) (as : List Addr) (gs : List G), vs = [.ref q, .ref l] ∧ H q = some (.tup [.int a, .int b, .int c, .int d]) ∧ ¬ Sq a b c d ∧ SqL K H l (as.map V.ref) ∧ At H as gs ∧ gs.length ≤ 40 ∧ (∀ g ∈ gs, OkG g) ∧ ∀ D H', H D = none → AI H H' → H' D = some (.lst ((AU (gs.filter (Tq a b c d))).map V.int)) → Q (.ref D) H'
theorem FD (T : Tx K mg) : Ao P w K mg base CX0 5 T.Gd T.FQ ["throw", "ordered"] (MV K) := by
 refine T.DU.F.ok Mi (fun vs H Q E h => ?_) (fun cdv A outer s H vs Q E hr h => ?_)
 ·obtain ⟨q, l, a, b, c, d, as, gs, rfl, hq, nb, hl, ga, l40, ok, k⟩ := h
  rfl
 ·obtain ⟨q, l, a, b, c, d, as, gs, rfl, hq, nb, hl, ga, l40, ok, k⟩ := h
  have hu := Ad hr
  refine ⟨_, (AE (AH (Ii rfl (⟨rfl, by decide +kernel, by decide +kernel, by decide +kernel, rfl, by decide +kernel, by with_unfolding_all rfl, by rfl, by rfl, by rfl⟩ : BI _ _ "gate" ["throw"] [0]) (BL (pv 1)) (fun _ _ _ _  => (pxi (EK (K := K) rfl) (pv 0) AB)) (fun _ _ _ _ => (NX (Bd (pcl T.Op (Qj T) hr AW (AA (pv 1) (AA (pv 0) AC))))))))), ?_⟩
  have h1 : ¬ b < 1 := fun z => nb (.inl z)
  have h2 : ¬ d < 1 := fun z => nb (.inr (.inl z))
  have h3 : ∀ x ∈ [a, b, c, d], x.natAbs ≤ 10 ^ 15 := fun x hx => by
   have h4 : ¬ x < -999999999 := fun z => nb (.inr (.inr ⟨x, hx, .inl z⟩))
   have h5 : ¬ 999999999 < x := fun z => nb (.inr (.inr ⟨x, hx, .inr z⟩))
   lia
  delta Ec
  refine ⟨⟨_, hl⟩, fun D nD => ?_⟩
  refine Kq (Tq a b c d) (fun g => V.int g.p) hl ga nD (by lia) (fun v g H1 R hg s1 ev hR => ?_) (fun v g H1 R hg s1 ev hR => ?_) fun H1 s1 e1 => ?_
  ·have og := ok g hg
   have o1 := og.p0
   have o2 := og.p1
   have o3 := og.f0
   have o4 := og.fh
   have o5 := og.h1
   delta Option.join_some
   refine ⟨q, v, a, b, c, d, g.p, g.f, g.h, rfl, SqT.of (s1.get hq), SqT.of ev, by lia, by lia, h3 a (by simp), h3 b (by simp), h3 c (by simp), h3 d (by simp), by lia, by lia, by lia, fun H2 s2 => ⟨_, rfl, hR H2 s2⟩⟩
  ·delta Option.join_some
   exact ⟨_, SqT.of ev, _, rfl, hR⟩
  ·exact k D H1 nD s1 (by rw [e1, List.map_map]; rfl)
theorem NO : AO ["earlier", "later"] ["earlier", "later"] (AG Dp) := by walk_at "SC"
noncomputable def GS (K : PySem.W.Frag) : Sp := fun vs H Q _ => ∃ (a b : Addr) (x y : G), vs = [.ref a, .ref b] ∧ SqT K H a (G.vs x) ∧ SqT K H b (G.vs y) ∧ OkG x ∧ OkG y ∧ ∀ D H', AI H H' → H' D = some (.tup [.int (y.h - x.f), .int (y.p - x.p)]) → Q (.ref D) H'
theorem Gg (T : Tx K mg) : Ao P w K mg base CX0 1 T.Ho T.Gs ["earlier", "later"] (GS K) := by
 refine T.D9.F.ok NO (fun vs H Q E h => ?_) (fun cdv A outer s H vs Q E hr h => ?_)
 ·obtain ⟨a, b, x, y, rfl, ha, hb, o1, o2, k⟩ := h
  rfl
 ·obtain ⟨a, b, x, y, rfl, ha, hb, o1, o2, k⟩ := h
  have hu := Ad hr
  refine ⟨_, (AE (AH (Ai (AA (AF Al (pxi AK (pv 1) AB) (pxi AK (pv 0) AB)) (AA (AF Al (pxi AK (pv 1) AB) (pxi AK (pv 0) AB)) AC))))), ?_⟩
  obtain ⟨p1, p2, p3, p4, p5⟩ := id o1
  obtain ⟨q1, q2, q3, q4, q5⟩ := id o2
  walk_at "RD"
  walk_at "AUTO"
  exact k _ _ hs he
theorem BP : AO ["ordered", "pair", "index", "earlier", "later"] ["ordered"] (AG DK) := by walk_at "SC"
structure Mg (H : Hp) (D : Addr) (gs : List G) (ax ay : Addr) (x y : G) : Prop where
 eD : H D = some (.tup [.ref ax, .ref ay])
 ex : H ax = some (.tup (G.vs x))
 ey : H ay = some (.tup (G.vs y))
 hx : x ∈ gs
 hy : y ∈ gs
 lt : x.p < y.p
theorem Mg.same {H H' : Hp} {D : Addr} {gs : List G} {ax ay : Addr} {x y : G} (h : Mg H D gs ax ay x y) (s : AI H H') : Mg H' D gs ax ay x y := ⟨s.get h.eD, s.get h.ex, s.get h.ey, h.hx, h.hy, h.lt⟩
noncomputable def FT (K : PySem.W.Frag) : Sp := fun vs H Q _ => ∃ (l : Addr) (as : List Addr) (gs : List G), vs = [.ref l] ∧ SqL K H l (as.map V.ref) ∧ At H as gs ∧ Asc gs ∧ 2 ≤ gs.length ∧ gs.length ≤ 1000 ∧ (∀ g ∈ gs, OkG g) ∧ ∀ D H' ax ay x y, AI H H' → Mg H' D gs ax ay x y → (∀ x' ∈ gs, ∀ y' ∈ gs, x'.p < y'.p → LeR x y x' y') → Q (.ref D) H'
noncomputable def X3 (gs : List G) (x y : G) (i j : Nat) : Prop := ∀ i' j' u v, i' < j' → gs[i']? = some u → gs[j']? = some v → (i' < i ∨ (i' = i ∧ j' < j)) → LeR x y u v
noncomputable def Wt1 (l : Addr) (gs : List G) (H : Hp) : Nat → St → Hp → Prop := fun i σ H' => ∃ D ax ay x y o1 o2 o3, σ = [some (.ref l), some (.ref D), o1, o2, o3] ∧ AI H H' ∧ Mg H' D gs ax ay x y ∧ X3 gs x y i 0
noncomputable def Wt2 (l ea : Addr) (gs : List G) (H : Hp) (i : Nat) : Nat → St → Hp → Prop := fun j σ H' => ∃ D ax ay x y o3, σ = [some (.ref l), some (.ref D), some (.int (i : Int)), some (.ref ea), o3] ∧ AI H H' ∧ Mg H' D gs ax ay x y ∧ X3 gs x y i (i + 1 + j)
theorem Mq (T : Tx K mg) : Ao P w K mg base CX0 2 T.Gj T.FN ["ordered"] (FT K) := by
 refine T.Gw.F.ok BP (fun vs H Q E h => ?_) (fun cdv A outer s H vs Q E hr h => ?_)
 ·obtain ⟨l, as, gs, rfl, hl, ga, ha, l2, hz, ok, k⟩ := h
  rfl
 ·obtain ⟨l, as, gs, rfl, hl, ga, ha, l2, hz, ok, k⟩ := h
  have hu := Ad hr
  refine ⟨_, (AD (pst 1 BP (Ai (AA (pxi AM (pv 0) AB) (AA (pxi AM (pv 0) AB) AC))))
   (AD (BA PassesOwn.never rfl (Q6 (by rfl) T.HQ (AA (pv 0) AC)) (Et (n := 2) rfl (Am (pgn 2 BP) (Am (pgn 3 BP) Ch)))
    (AE (BA PassesOwn.never rfl (BL (FY FV (pv 0) (IT (AF Ak (pv 2) AB)) IZ)) (pgn 4 BP)
      (AE (AY (ptc Da (pcl T.Ib (J8 T) hr AW (AA (pcl T.D9 (Gg T) hr AW (AA (pv 3) (AA (pv 4) AC))) (AA (pcl T.D9 (Gg T) hr AW (AA (pxi AK (pv 1) AB) (AA (pxi AK (pv 1) AB) AC))) AC))) AB) (AE (pst 1 BP (Ai (AA (pv 3) (AA (pv 4) AC)))))
        AL)))))
   (AE (AH (pv 1))))), ?_⟩
  have la := ga.len
  have h0 : 0 < gs.length := by lia
  have h1 : 1 < gs.length := by lia
  obtain ⟨a0, f0, e0⟩ := ga.get (List.getElem?_eq_getElem h0)
  obtain ⟨a1, f1, e1⟩ := ga.get (List.getElem?_eq_getElem h1)
  have i0 : atI (as.map V.ref) 0 = some (V.ref a0) := Cb (i := 0) f0
  have i1 : atI (as.map V.ref) 1 = some (V.ref a1) := Cb (i := 1) f1
  walk_at "RD"
  walk_at "AUTO"
  refine ⟨_, rfl, l, rfl, ⟨_, hs.seq hl⟩, Nn (xs := as.map V.ref) (Wt1 l gs H') ⟨p, a0, a1, gs[0], gs[1], none, none, none, rfl, AI.refl _, ⟨he, hs.get e0, hs.get e1, List.getElem_mem h0, List.getElem_mem h1, DR ha (List.getElem?_eq_getElem h0) (List.getElem?_eq_getElem h1) (by lia)⟩, fun i' j' u v _ _ _ hh => by lia⟩ (fun i σ H1 _ ⟨_, _, _, _, _, _, _, _, _, s1, _, _⟩ => (hs.trans s1).seq hl) ?_ ?_⟩
  ·rintro i vv σ H1 pp H2 hx ⟨D, ax, ay, x, y, o1, o2, o3, rfl, s1, pa, le⟩ hn s2 e2
   have hi : i < gs.length := by
    have := (List.getElem?_eq_some_iff.mp hx).1
    rw [List.length_map] at this
    lia
   obtain ⟨ea, fe, ee⟩ := ga.get (List.getElem?_eq_getElem hi)
   have ex : vv = V.ref ea := by
    rw [List.getElem?_map, fe] at hx
    exact (Option.some.inj hx).symm
   subst ex
   have s02 := hs.trans (s1.trans s2)
   have gu := List.getElem?_eq_getElem hi
   generalize hu0 : gs[i] = u at ee gu
   have ou := ok u (List.mem_of_getElem? gu)
   delta Kx EJ La
   refine ⟨_, SqT.of e2, rfl, _, _, rfl, _, _, rfl, rfl, ?_⟩
   refine ⟨_, rfl, _, rfl, _, _, rfl, rfl, _, rfl, l, rfl, _, s02.seq hl, fun S H3 nS s3 eS => ?_⟩
   rw [show (i : Int) + 1 = ((i + 1 : Nat) : Int) by lia, P4, ← List.map_drop] at eS
   have s03 := s02.trans s3
   refine ⟨S, rfl, ⟨_, SqL.of eS⟩, Ci (xs := (as.drop (i + 1)).map V.ref) (Wt2 l ea gs H3 i) ⟨D, ax, ay, x, y, o3, rfl, AI.refl _, (pa.same s2).same s3, fun i' j' u' v' h1 h2 h3 h4 => le i' j' u' v' h1 h2 h3 (by lia)⟩ (fun j σ H4 _ ⟨_, _, _, _, _, _, _, s4, _, _⟩ => SqL.of (s4.get eS)) ?_ ?_⟩
   ·rintro j vv σ H4 hx ⟨D, ax, ay, x, y, o3, rfl, s4, pa, le⟩
    have hj : i + 1 + j < gs.length := by
     have := (List.getElem?_eq_some_iff.mp hx).1
     rw [List.length_map, List.length_drop] at this
     lia
    obtain ⟨la', fl, el⟩ := ga.get (List.getElem?_eq_getElem hj)
    have ex : vv = V.ref la' := by
     rw [List.getElem?_map, List.getElem?_drop, fl] at hx
     exact (Option.some.inj hx).symm
    subst ex
    have s04 := s03.trans s4
    have gv := List.getElem?_eq_getElem hj
    generalize hv0 : gs[i + 1 + j] = v at el gv
    have ov := ok v (List.mem_of_getElem? gv)
    have eu4 := s04.get ee
    have ev4 := s04.get el
    have ex4 := pa.ex
    have ey4 := pa.ey
    have eD4 := pa.eD
    have luv := DR ha gu gv (by lia)
    have lxy := pa.lt
    have ox := ok x pa.hx
    have oy := ok y pa.hy
    walk_at "RD"
    walk_at "AUTO"
    unfold GS KW
    refine ⟨_, _, u, v, rfl, SqT.of eu4, SqT.of ev4, ou, ov, fun D1 H5 s5 e5 => ?_⟩
    walk_at "AUTO"
    refine ⟨_, _, x, y, rfl, (by walk_at "SQT4"), (by walk_at "SQT4"), ox, oy, fun D2 H6 s6 e6 => ?_⟩
    obtain ⟨p1, p2, p3, p4, p5⟩ := id ou
    obtain ⟨q1, q2, q3, q4, q5⟩ := id ov
    obtain ⟨r1, r2, r3, r4, r5⟩ := id ox
    obtain ⟨t1, t2, t3, t4, t5⟩ := id oy
    have w1 : Sm (v.h - u.f) := Sm.of (n := 10 ^ 10) (by lia) (by decide +kernel)
    have w2 : Sm (v.p - u.p) := Sm.of (n := 10 ^ 10) (by lia) (by decide +kernel)
    have w3 : Sm (y.h - x.f) := Sm.of (n := 10 ^ 10) (by lia) (by decide +kernel)
    have w4 : Sm (y.p - x.p) := Sm.of (n := 10 ^ 10) (by lia) (by decide +kernel)
    refine ⟨_, _, _, _, _, _, rfl, SqT.of (s6.get e5), SqT.of e6, w1, w2, w3, w4, ?_⟩
    have ec : OA ((v.h - u.f) * (y.p - x.p)) ((y.h - x.f) * (v.p - u.p)) < 0 ↔ ¬ LeR x y u v := by
     unfold OA LeR
     rw [Int.not_le]
     split <;> (try split) <;> lia
    have s46 := s5.trans s6
    refine ⟨_, rfl, ?_⟩
    by_cases hb : LeR x y u v
    ·rw [if_neg (fun z => ec.mp (of_decide_eq_true z) hb)]
     refine ⟨D, ax, ay, x, y, _, rfl, s4.trans s46, pa.same s46, fun i' j' u' v' h1 h2 h3 h4 => ?_⟩
     rcases (by lia : (i' < i ∨ (i' = i ∧ j' < i + 1 + j)) ∨ (i' = i ∧ j' = i + 1 + j)) with z | ⟨rfl, rfl⟩
     ·exact le i' j' u' v' h1 h2 h3 z
     ·cases gu.symm.trans h2
      cases gv.symm.trans h3
      exact hb
    ·rw [if_pos (decide_eq_true (ec.mpr hb))]
     walk_at "AUTO"
     have lt' : LeR u v x y := by
      unfold LeR at hb ⊢
      rw [Int.not_le] at hb
      exact Int.le_of_lt hb
     refine ⟨p, ea, la', u, v, _, rfl, s4.trans (s46.trans hs), ⟨he, hs.get (s46.get eu4), hs.get (s46.get ev4), List.mem_of_getElem? gu, List.mem_of_getElem? gv, luv⟩, fun i' j' u' v' h1 h2 h3 h4 => ?_⟩
     rcases (by lia : (i' < i ∨ (i' = i ∧ j' < i + 1 + j)) ∨ (i' = i ∧ j' = i + 1 + j)) with z | ⟨rfl, rfl⟩
     ·exact LeR.trans luv lxy (DR ha h2 h3 h1) lt' (le i' j' u' v' h1 h2 h3 z)
     ·cases gu.symm.trans h2
      cases gv.symm.trans h3
      exact LeR.refl u v
   ·rintro σ H4 ⟨D, ax, ay, x, y, o3, rfl, s4, pa, le⟩
    refine ⟨D, ax, ay, x, y, _, _, _, rfl, s1.trans (s2.trans (s3.trans s4)), pa, fun i' j' u' v' h1 h2 h3 h4 => ?_⟩
    have hj' := (List.getElem?_eq_some_iff.mp h3).1
    rw [List.length_map, List.length_drop] at le
    exact le i' j' u' v' h1 h2 h3 (by lia)
  ·rintro σ H1 ⟨D, ax, ay, x, y, o1, o2, o3, rfl, s1, pa, le⟩
   rw [List.length_map] at le
   walk_at "RD"
   refine k D H1 ax ay x y (hs.trans s1) pa fun x' hx' y' hy' lt' => ?_
   obtain ⟨i', hi', rfl⟩ := List.getElem_of_mem hx'
   obtain ⟨j', hj', rfl⟩ := List.getElem_of_mem hy'
   have q1 := List.getElem?_eq_getElem hi'
   have q2 := List.getElem?_eq_getElem hj'
   exact le i' j' _ _ (Ie ha q1 q2 lt') q1 q2 (by lia)
theorem BZ : AO ["ordered", "pair", "foot_place", "head_place", "throw"] ["ordered"] (AG C6) := by walk_at "SC"
noncomputable def By (K : PySem.W.Frag) : Sp := fun vs H Q _ => ∃ (l : Addr) (as : List Addr) (gs : List G), vs = [.ref l] ∧ SqL K H l (as.map V.ref) ∧ At H as gs ∧ Asc gs ∧ 2 ≤ gs.length ∧ gs.length ≤ 1000 ∧ (∀ g ∈ gs, OkG g) ∧ (∀ H', AI H H' → ¬ Dz gs → Q .non H') ∧ ∀ D H' q t x y, AI H H' → W9 H' D gs q t x y → Q (.ref D) H'
theorem Ce (T : Tx K mg) : Ao P w K mg base CX0 6 T.FK T.EI ["ordered"] (By K) := by
 refine T.B8.F.ok BZ (fun vs H Q E h => ?_) (fun cdv A outer s H vs Q E hr h => ?_)
 ·obtain ⟨l, as, gs, rfl, hl, ga, ha, l2, hz, ok, kn, k⟩ := h
  rfl
 ·obtain ⟨l, as, gs, rfl, hl, ga, ha, l2, hz, ok, kn, k⟩ := h
  have hu := Ad hr
  refine ⟨_, (AD (pst 1 BZ (pcl T.Gw (Mq T) hr AW (AA (pv 0) AC)))
   (AD (pst 2 BZ (pxi AK (pxi AK (pv 1) AB) AB))
   (AD (pst 3 BZ (pxi AK (pxi AK (pv 1) AB) AB))
   (AD (pst 4 BZ (pcl T.L8 (N4 T) hr AW (AA (pv 2) (AA (pxi AK (pxi AK (pv 1) AB) AB) (AA (pv 3) (AA (pxi AK (pxi AK (pv 1) AB) AB) AC))))))
   (AD (AY (B0 (Bd (pcl T.L3 (PU T) hr AW (AA (pv 4) (AA (pv 0) AC))))) (AE (AH GD))
    AL)
   (AE (AH (Ai (AA (pv 4) (AA (pv 2) (AA (pv 3) AC))))))))))), ?_⟩
  walk_at "RD"
  walk_at "AUTO"
  unfold FT
  refine ⟨_, as, gs, rfl, hl, ga, ha, l2, hz, ok, fun D H1 ax ay x y s1 pa le => ?_⟩
  have eD := pa.eD
  have ex := pa.ex
  have ey := pa.ey
  have lxy := pa.lt
  have ox := ok x pa.hx
  have oy := ok y pa.hy
  obtain ⟨r1, r2, r3, r4, r5⟩ := id ox
  obtain ⟨t1, t2, t3, t4, t5⟩ := id oy
  walk_at "AUTO"
  unfold KA
  refine ⟨x.p, x.f, y.p, y.h, rfl, by lia, by lia, by lia, by lia, by lia, fun q H2 a b c d s2 e2 L1 L2 => ?_⟩
  have lo := Sg lxy L1 L2
  have ot := US (by lia) (by lia) (by lia) (by lia) L1 L2
  walk_at "AUTO"
  unfold JH
  refine ⟨_, _, ⟨a, b, c, d⟩, as, gs, rfl, SqT.of e2, (s1.trans s2).seq hl, ga.same (s1.trans s2), ot, hz, ok, fun H3 s3 => ?_⟩
  by_cases hb : ∀ g ∈ gs, (⟨a, b, c, d⟩ : Thr).pas g
  ·rw [decide_eq_true hb]
   have e3 := s3.get e2
   walk_at "AUTO"
   exact k _ _ q ⟨a, b, c, d⟩ x y (s1.trans (s2.trans (s3.trans hs))) ⟨he, hs.get e3, ot, hb, pa.hx, pa.hy, lxy, lo.2.1, lo.2.2⟩
  ·rw [decide_eq_false hb]
   walk_at "AUTO"
   exact kn _ (s1.trans (s2.trans s3)) (KY ha ok pa.hx pa.hy lxy le fun z => hb fun g hg => (lo.1 g).mpr (z g hg))
theorem Ng : AO ["height"] ["height"] (AG Eh) := by walk_at "SC"
noncomputable def Dy : Sp := fun vs H Q _ => ∃ h : Int, vs = [.int h] ∧ ∀ D H', AI H H' → H' D = some (.tup [.int h, .int 1, .int 0, .int 1]) → Q (.ref D) H'
theorem R5 {h : Int} (b : h.natAbs ≤ 1000) : OkT ⟨h, 1, 0, 1⟩ := ⟨by show h.natAbs ≤ _; lia, by show (1 : Int).natAbs ≤ _; decide, by show (0 : Int).natAbs ≤ _; decide, by show (1 : Int).natAbs ≤ _; decide, by show (0 : Int) < 1; decide, by show (0 : Int) < 1; decide, by show Int.gcd h 1 = 1; simp, by show Int.gcd 0 1 = 1; decide⟩
theorem VG {g : G} (o : OkG g) : (⟨g.f, 1, 0, 1⟩ : Thr).pas g := by
 obtain ⟨_, _, _, h, _⟩ := o
 show Pas g.f 1 0 1 g.p g.f g.h
 unfold Pas
 constructor <;> simp <;> lia
theorem IM (T : Tx K mg) : Ao P w K mg base CX0 1 T.JU T.HL ["height"] Dy := by
 refine T.Eg.F.ok Ng (fun vs H Q E h => ?_) (fun cdv A outer s H vs Q E hr h => ?_)
 ·obtain ⟨h, rfl, k⟩ := h
  rfl
 ·obtain ⟨h, rfl, k⟩ := h
  have hu := Ad hr
  refine ⟨_, (AE (AH (Ai (AA (pv 0) (AA AB (AA AB (AA AB AC))))))), ?_⟩
  walk_at "RD"
  walk_at "AUTO"
  exact k _ _ hs he
theorem Gc : AO ["ordered", "found"] ["ordered"] (AG Du) := by walk_at "SC"
noncomputable def DY (K : PySem.W.Frag) : Sp := fun vs H Q _ => ∃ (l : Addr) (as : List Addr) (gs : List G), vs = [.ref l] ∧ SqL K H l (as.map V.ref) ∧ At H as gs ∧ Asc gs ∧ gs.length ≤ 1000 ∧ (∀ g ∈ gs, OkG g) ∧ (∀ H', AI H H' → ¬ Dz gs → Q .non H') ∧ ∀ D H' t, AI H H' → H' D = some (.tup t.vs) → OkT t → (∀ g ∈ gs, t.pas g) → Q (.ref D) H'
theorem CK (T : Tx K mg) : Ao P w K mg base CX0 7 T.IJ T.Ge ["ordered"] (DY K) := by
 refine T.B5.F.ok Gc (fun vs H Q E h => ?_) (fun cdv A outer s H vs Q E hr h => ?_)
 ·obtain ⟨l, as, gs, rfl, hl, ga, ha, hz, ok, kn, k⟩ := h
  rfl
 ·obtain ⟨l, as, gs, rfl, hl, ga, ha, hz, ok, kn, k⟩ := h
  have hu := Ad hr
  refine ⟨_, (AD (AY (ptc Ay (AJ AT (by rfl) T.Az Ap (AA (pv 0) AC)) AB) (AE (AH (pcl T.Eg (IM T) hr AW (AA AB AC))))
    AL)
   (AD (AY (ptc Ay (AJ AT (by rfl) T.Az Ap (AA (pv 0) AC)) AB) (AE (AH (pcl T.Eg (IM T) hr AW (AA (pxi AK (pxi AM (pv 0) AB) AB) AC))))
    AL)
   (AD (pst 1 Gc (pcl T.B8 (Ce T) hr AW (AA (pv 0) AC)))
   (AD (AY (ptc Om (pv 1) GD) (AE (AH GD))
    AL)
   (AE (AH (pxi AK (pv 1) AB))))))), ?_⟩
  have la := ga.len
  walk_at "RD"
  walk_at "AUTO"
  rw [List.length_map, la]
  by_cases c0 : gs.length = 0
  ·have eg := List.eq_nil_of_length_eq_zero c0
   rw [if_pos (decide_eq_true (by lia))]
   unfold Dy
   refine ⟨0, rfl, fun D H1 s1 e1 => k D H1 ⟨0, 1, 0, 1⟩ s1 e1 (R5 (by decide)) fun g hg => ?_⟩
   rw [eg] at hg
   exact absurd hg (by simp)
  rw [if_neg (fun z => c0 (by have := of_decide_eq_true z; lia))]
  walk_at "AUTO"
  rw [List.length_map, la]
  by_cases c1 : gs.length = 1
  ·rw [if_pos (decide_eq_true (by lia))]
   match gs, ga, c1, ok, k with
   | [g], ga, _, ok, k =>
    obtain ⟨a0, f0, e0⟩ := ga.get (i := 0) (g := g) rfl
    have i0 : atI (as.map V.ref) 0 = some (V.ref a0) := Cb (i := 0) f0
    have og := ok g (by simp)
    obtain ⟨q1, q2, q3, q4, q5⟩ := id og
    walk_at "AUTO"
    unfold Dy
    refine ⟨g.f, rfl, fun D H1 s1 e1 => k D H1 ⟨g.f, 1, 0, 1⟩ s1 e1 (R5 (by lia)) fun g' hg => ?_⟩
    rw [List.mem_singleton.mp hg]
    exact VG og
  rw [if_neg (fun z => c1 (by have := of_decide_eq_true z; lia))]
  walk_at "AUTO"
  unfold By
  refine ⟨_, as, gs, rfl, hl, ga, ha, by lia, hz, ok, fun H1 s1 nb => ?_, fun D H1 q t x y s1 fa => ?_⟩
  ·walk_at "AUTO"
   exact kn _ s1 nb
  ·have eD := fa.eD
   walk_at "AUTO"
   exact k q H1 t s1 fa.eq fa.ok fa.all
theorem Sj : AO ["gates"] ["gates"] (AG Kf) := by walk_at "SC"
noncomputable def EO (K : PySem.W.Frag) : Sp := fun vs H Q _ => ∃ (l : Addr) (as : List Addr) (gs sg : List G), vs = [.ref l] ∧ SqL K H l (as.map V.ref) ∧ At H as gs ∧ (gs.map G.p).Nodup ∧ gs.length ≤ 40 ∧ (∀ g ∈ gs, OkG g) ∧ sg.Perm gs ∧ Asc sg ∧ ¬ Dz sg ∧ ∀ D H', AI H H' → Wm H' D gs → Q (.ref D) H'
theorem HG (T : Tx K mg) : Ao P w K mg base CX0 4 T.OC T.NC ["gates"] (EO K) := by
 refine T.F8.F.ok Sj (fun vs H Q E h => ?_) (fun cdv A outer s H vs Q E hr h => ?_)
 ·obtain ⟨l, as, gs, sg, rfl, hl, ga, nd, h40, ok, hp, ha, nb, k⟩ := h
  rfl
 ·obtain ⟨l, as, gs, sg, rfl, hl, ga, nd, h40, ok, hp, ha, nb, k⟩ := h
  have hu := Ad hr
  refine ⟨_, (AE (AH (Ai (AA AX (AA (pcl T.Jw (Og T) hr AW (AA (pv 0) AC)) AC))))), ?_⟩
  walk_at "RD"
  walk_at "AUTO"
  unfold Hi
  refine ⟨_, as, gs, rfl, hl, ga, nd, h40, ok, fun H1 s1 hf => absurd rfl (Q1 hp ha nb hf), fun D H1 t s1 e1 ne hf => ?_⟩
  walk_at "AUTO"
  exact k _ _ (s1.trans hs) ⟨D, t, he, hs.get e1, ne, hf⟩
theorem Fn : AO ["gates", "throw"] ["gates"] (AG DN) := by walk_at "SC"
noncomputable def Ms (K : PySem.W.Frag) : Sp := fun vs H Q _ => ∃ (l : Addr) (as : List Addr) (gs : List G), vs = [.ref l] ∧ SqL K H l (as.map V.ref) ∧ At H as gs ∧ (gs.map G.p).Nodup ∧ gs.length ≤ 40 ∧ gs ≠ [] ∧ (∀ g ∈ gs, OkG g) ∧ ∀ D H', AI H H' → MU H' D gs → Q (.ref D) H'
theorem L5 (T : Tx K mg) : Ao P w K mg base CX0 8 T.Gi T.FA ["gates"] (Ms K) := by
 refine T.Go.F.ok Fn (fun vs H Q E h => ?_) (fun cdv A outer s H vs Q E hr h => ?_)
 ·obtain ⟨l, as, gs, rfl, hl, ga, nd, h40, hne, ok, k⟩ := h
  rfl
 ·obtain ⟨l, as, gs, rfl, hl, ga, nd, h40, hne, ok, k⟩ := h
  have hu := Ad hr
  refine ⟨_, (AD (pst 1 Fn (pcl T.B5 (CK T) hr AW (AA (AJ Bn (by rfl) T.Bh BN (AA (pv 0) AC)) AC)))
   (AD (AY (ptc Om (pv 1) GD) (AE (AH (pcl T.F8 (HG T) hr AW (AA (pv 0) AC))))
    AL)
   (AE (AH (Ai (AA AX (AA (pv 1) AC))))))), ?_⟩
  walk_at "RD"
  walk_at "AUTO"
  intro D1 H1 as1 sg nD s1 e1 ga1 hp ha
  have lg := hp.length_eq
  have ok1 : ∀ g ∈ sg, OkG g := fun g hg => ok g (hp.mem_iff.mp hg)
  unfold DY
  refine ⟨_, as1, sg, rfl, SqL.of e1, ga1, ha, by lia, ok1, fun H2 s2 nb => ?_, fun q H2 t s2 e2 ot all => ?_⟩
  ·walk_at "AUTO"
   unfold EO
   exact ⟨_, as, gs, sg, rfl, (s1.trans s2).seq hl, ga.same (s1.trans s2), nd, h40, ok, hp, ha, nb, fun D H3 s3 b => k D H3 (s1.trans (s2.trans s3)) (.bar b)⟩
  ·walk_at "AUTO"
   exact k _ _ (s1.trans (s2.trans hs)) (.throw q t he (hs.get e2) ot fun g hg => all g (hp.mem_iff.mpr hg))
theorem EN : AO ["gates", "found"] ["gates"] (AG C7) := by walk_at "SC"
noncomputable def Kv (K : PySem.W.Frag) : Sp := fun vs H Q _ => ∃ (l : Addr) (as : List Addr) (gs : List G), vs = [.ref l] ∧ SqL K H l (as.map V.ref) ∧ At H as gs ∧ (gs.map G.p).Nodup ∧ 2 ≤ gs.length ∧ gs.length ≤ 40 ∧ (∀ g ∈ gs, OkG g) ∧ ∀ D H', AI H H' → OX true H' D gs → Q (.ref D) H'
theorem K5 (T : Tx K mg) : Ao P w K mg base CX0 7 T.Fm T.EQ ["gates"] (Kv K) := by
 refine T.FI.F.ok EN (fun vs H Q E h => ?_) (fun cdv A outer s H vs Q E hr h => ?_)
 ·obtain ⟨l, as, gs, rfl, hl, ga, nd, l2, h40, ok, k⟩ := h
  rfl
 ·obtain ⟨l, as, gs, rfl, hl, ga, nd, l2, h40, ok, k⟩ := h
  have hu := Ad hr
  refine ⟨_, (AD (pst 1 EN (pcl T.B8 (Ce T) hr AW (AA (AJ Bn (by rfl) T.Bh BN (AA (pv 0) AC)) AC)))
   (AD (AY (ptc Om (pv 1) GD) (AE (AH (pcl T.F8 (HG T) hr AW (AA (pv 0) AC))))
    AL)
   (AE (AH (Ai (AA AX (AA (pxi AK (pv 1) AB) (AA (pxi AK (pv 1) AB) (AA (pxi AK (pv 1) AB) AC))))))))), ?_⟩
  walk_at "RD"
  walk_at "AUTO"
  intro D1 H1 as1 sg nD s1 e1 ga1 hp ha
  have lg := hp.length_eq
  have ok1 : ∀ g ∈ sg, OkG g := fun g hg => ok g (hp.mem_iff.mp hg)
  unfold By
  refine ⟨_, as1, sg, rfl, SqL.of e1, ga1, ha, by lia, by lia, ok1, fun H2 s2 nb => ?_, fun D H2 q t x y s2 fa => ?_⟩
  ·walk_at "AUTO"
   unfold EO
   exact ⟨_, as, gs, sg, rfl, (s1.trans s2).seq hl, ga.same (s1.trans s2), nd, h40, ok, hp, ha, nb, fun D H3 s3 b => k D H3 (s1.trans (s2.trans s3)) (.bar b)⟩
  ·have eD := fa.eD
   walk_at "AUTO"
   exact k _ _ (s1.trans (s2.trans hs)) (.throw q t x y he (hs.get fa.eq) fa.ok (fun g hg => fa.all g (hp.mem_iff.mpr hg)) (hp.mem_iff.mp fa.hx) (hp.mem_iff.mp fa.hy) fa.lt fa.tx fa.ty)
theorem OD : AO ["gate"] ["gate"] (AG Ex) := by walk_at "SC"
noncomputable def Hz (K : PySem.W.Frag) : Sp := fun vs H Q _ => ∃ (a : Addr) (g : G), vs = [.ref a] ∧ SqT K H a (G.vs g) ∧ ∀ D H', AI H H' → H' D = some (.tup (G.vs (Cj g))) → Q (.ref D) H'
theorem Ox (T : Tx K mg) : Ao P w K mg base CX0 1 T.JB T.IN ["gate"] (Hz K) := by
 refine T.JV.F.ok OD (fun vs H Q E h => ?_) (fun cdv A outer s H vs Q E hr h => ?_)
 ·obtain ⟨a, g, rfl, ha, k⟩ := h
  rfl
 ·obtain ⟨a, g, rfl, ha, k⟩ := h
  have hu := Ad hr
  refine ⟨_, (AE (AH (Ai (AA (pxi AK (pv 0) AB) (AA (Co Bv (pxi AK (pv 0) AB)) (AA (Co Bv (pxi AK (pv 0) AB)) AC)))))), ?_⟩
  walk_at "RD"
  walk_at "AUTO"
  exact k _ _ hs he
theorem NH : AO ["throw"] ["throw"] (AG ED) := by walk_at "SC"
noncomputable def GW (K : PySem.W.Frag) : Sp := fun vs H Q _ => ∃ (a : Addr) (t : Thr), vs = [.ref a] ∧ SqT K H a t.vs ∧ ∀ D H', AI H H' → H' D = some (.tup (SR t).vs) → Q (.ref D) H'
theorem NR (T : Tx K mg) : Ao P w K mg base CX0 1 T.IG T.Gv ["throw"] (GW K) := by
 refine T.IE.F.ok NH (fun vs H Q E h => ?_) (fun cdv A outer s H vs Q E hr h => ?_)
 ·obtain ⟨a, t, rfl, ha, k⟩ := h
  rfl
 ·obtain ⟨a, t, rfl, ha, k⟩ := h
  have hu := Ad hr
  refine ⟨_, (AE (AH (Ai (AA (Co Bv (pxi AK (pv 0) AB)) (AA (pxi AK (pv 0) AB) (AA (Co Bv (pxi AK (pv 0) AB)) (AA (pxi AK (pv 0) AB) AC))))))), ?_⟩
  walk_at "RD"
  walk_at "AUTO"
  exact k _ _ hs he
theorem EZ : AO ["gates", "found"] ["gates"] (AG C2) := by walk_at "SC"
noncomputable def Ls (K : PySem.W.Frag) : Sp := fun vs H Q _ => ∃ (l : Addr) (as : List Addr) (gs : List G), vs = [.ref l] ∧ SqL K H l (as.map V.ref) ∧ At H as gs ∧ (gs.map G.p).Nodup ∧ 2 ≤ gs.length ∧ gs.length ≤ 40 ∧ (∀ g ∈ gs, OkG g) ∧ ∀ D H', AI H H' → OX false H' D gs → Q (.ref D) H'
theorem Lz {H : Hp} : ∀ {ys : List V} {gs : List G}, Paired (fun v g => ∃ p, v = V.ref p ∧ H p = some (.tup (G.vs (Cj g)))) ys gs → ∃ as : List Addr, ys = as.map V.ref ∧ At H as (gs.map Cj)
 | _, _, .nil => ⟨[], rfl, .nil⟩
 | _, _, .cons ⟨p, e1, e2⟩ t => by
  obtain ⟨as, e, ga⟩ := Lz t
  exact ⟨p :: as, by rw [e1, e]; rfl, .cons e2 ga⟩
theorem K3 (T : Tx K mg) : Ao P w K mg base CX0 7 T.FM T.EU ["gates"] (Ls K) := by
 refine T.E8.F.ok EZ (fun vs H Q E h => ?_) (fun cdv A outer s H vs Q E hr h => ?_)
 ·obtain ⟨l, as, gs, rfl, hl, ga, nd, l2, h40, ok, k⟩ := h
  rfl
 ·obtain ⟨l, as, gs, rfl, hl, ga, nd, l2, h40, ok, k⟩ := h
  have hu := Ad hr
  refine ⟨_, (AD (pst 1 EZ (pcl T.B8 (Ce T) hr AW (AA (Ii rfl (⟨rfl, by decide +kernel, by decide +kernel, by decide +kernel, rfl, by decide +kernel, by with_unfolding_all rfl, by rfl, by rfl, by rfl⟩ : BI _ _ "gate" [] []) (BL (AJ Bn (by rfl) T.Bh BN (AA (pv 0) AC))) (fun _ _ _ _  => (pcl T.JV (Ox T) hr AW (AA (pv 0) AC))) (fun _ _ _ _ => Ik)) AC)))
   (AD (AY (ptc Om (pv 1) GD) (AE (AH (pcl T.F8 (HG T) hr AW (AA (pv 0) AC))))
    AL)
   (AE (AH (Ai (AA AX (AA (pcl T.IE (NR T) hr AW (AA (pxi AK (pv 1) AB) AC)) (AA (pxi AK (pv 1) AB) (AA (pxi AK (pv 1) AB) AC))))))))), ?_⟩
  delta Ec
  walk_at "AUTO"
  intro D1 H1 as1 sg nD s1 e1 ga1 hp ha
  have lg := hp.length_eq
  have ok1 : ∀ g ∈ sg, OkG g := fun g hg => ok g (hp.mem_iff.mp hg)
  refine ⟨⟨_, SqL.of e1⟩, fun C nC => ?_⟩
  refine QX (F := fun H v g => ∃ p, v = V.ref p ∧ H p = some (.tup (G.vs (Cj g)))) (fun _ _ _ _ s ⟨p, e1, e2⟩ => ⟨p, e1, s.get e2⟩) (fun H v g xs ys hD ⟨p, e1, e2⟩ => ⟨p, e1, by rw [AN (Be e2 hD (by intro z; cases z))]; exact e2⟩) (SqL.of e1) ga1 nC (by lia) ?_ ?_
  ·intro v g H2 R hg s2 ev hR
   delta Option.join_some
   walk_at "AUTO"
   unfold Hz
   exact ⟨_, g, rfl, SqT.of ev, fun D H3 s3 e3 => hR _ _ s3 ⟨D, rfl, e3⟩⟩
  intro H2 ys s2 e2 pr
  obtain ⟨as2, rfl, ga2⟩ := Lz pr
  unfold By
  refine ⟨_, as2, sg.map Cj, rfl, SqL.of e2, ga2, Ww ha, by rw [List.length_map]; lia, by rw [List.length_map]; lia, fun g hg => ?_, fun H3 s3 nb => ?_, fun D H3 q t x y s3 fa => ?_⟩
  ·obtain ⟨g', hg', rfl⟩ := List.mem_map.mp hg
   exact XB (ok1 g' hg')
  ·walk_at "AUTO"
   unfold EO
   have s13 := s1.trans (s2.trans s3)
   exact ⟨_, as, gs, sg, rfl, s13.seq hl, ga.same s13, nd, h40, ok, hp, ha, fun z => nb (Tf z), fun D H4 s4 b => k D H4 (s13.trans s4) (.bar b)⟩
  ·have eD := fa.eD
   obtain ⟨x, hx, rfl⟩ := List.mem_map.mp fa.hx
   obtain ⟨y, hy, rfl⟩ := List.mem_map.mp fa.hy
   walk_at "AUTO"
   unfold GW
   refine ⟨_, t, rfl, SqT.of fa.eq, fun D2 H4 s4 e4 => ?_⟩
   have eD4 := s4.get eD
   walk_at "AUTO"
   exact k _ _ (s1.trans (s2.trans (s3.trans (s4.trans hs)))) (.throw D2 (SR t) x y he (hs.get e4) (WU fa.ok) (fun g hg => WT.mpr (fa.all _ (List.mem_map.mpr ⟨g, hp.mem_iff.mpr hg, rfl⟩))) (hp.mem_iff.mp hx) (hp.mem_iff.mp hy) fa.lt (Sf fa.tx) (Sf fa.ty))
theorem Rz : AO ["run", "throw"] ["run", "throw"] (AG J4) := by walk_at "SC"
noncomputable def Hy (K : PySem.W.Frag) : Sp := fun vs H Q _ => ∃ (l q : Addr) (bs : List Addr) (g : G) (rest : List G) (t : Thr), vs = [.ref l, .ref q] ∧ SqL K H l (bs.map V.ref) ∧ At H bs (g :: rest) ∧ H q = some (.tup t.vs) ∧ OkT t ∧ (∀ x ∈ g :: rest, t.pas x) ∧ ∀ D H', AI H H' → J0 H' D ⟨g, rest, t⟩ → Q (.ref D) H'
theorem NB (T : Tx K mg) : Ao P w K mg base CX0 1 T.OB T.M9 ["run", "throw"] (Hy K) := by
 refine T.KG.F.ok Rz (fun vs H Q E h => ?_) (fun cdv A outer s H vs Q E hr h => ?_)
 ·obtain ⟨l, q, bs, g, rest, t, rfl, hl, gb, eq, ot, all, k⟩ := h
  rfl
 ·obtain ⟨l, q, bs, g, rest, t, rfl, hl, gb, eq, ot, all, k⟩ := h
  have hu := Ad hr
  refine ⟨_, (AE (AH (Ai (AA (pxi AK (pxi AM (pv 0) AB) AB) (AA (pxi AK (pxi AM (pv 0) (Co Bv AB)) AB) (AA (pv 1) AC)))))), ?_⟩
  obtain ⟨a0, f0, e0⟩ := gb.get (i := 0) (g := g) rfl
  have i0 : atI (bs.map V.ref) 0 = some (V.ref a0) := Cb (i := 0) f0
  obtain ⟨pre, ep⟩ := Pi g rest t
  have gb2 := gb
  rw [ep] at gb2
  obtain ⟨cs, az, ec, ez⟩ := VR gb2
  have iz : atI (bs.map V.ref) (-1) = some (V.ref az) := by rw [ec, List.map_append]; exact Vi _ _
  walk_at "RD"
  walk_at "AUTO"
  exact k _ _ hs ⟨q, he, hs.get eq, ot, all⟩
theorem Ax : AO ["gates", "runs", "run", "throw", "gate", "longer", "longer_throw"] ["gates"] (AG E6) := by walk_at "SC"
noncomputable def Ot (K : PySem.W.Frag) : Sp := fun vs H Q _ => ∃ (l : Addr) (as : List Addr) (gs : List G), vs = [.ref l] ∧ SqL K H l (as.map V.ref) ∧ At H as gs ∧ (gs.map G.p).Nodup ∧ gs.length ≤ 40 ∧ (∀ g ∈ gs, OkG g) ∧ ∀ D H' as' rs, H D = none → AI H H' → TF H' D as' rs gs → Q (.ref D) H'
noncomputable def Wsh (l R S : Addr) (as1 : List Addr) (sg : List G) (H : Hp) : Nat → St → Hp → Prop := fun i σ H' => ∃ (L : Addr) (tv : V) (ra : List Addr) (rs : List Run) (bs : List Addr) (cur : List G) (o1 o2 o3 : Option V), σ = [some (.ref l), some (.ref R), some (.ref L), some tv, o1, o2, o3] ∧ AI H H' ∧ Shr H' R S L as1 sg ra rs bs cur tv i
noncomputable def Csh (l R S : Addr) (as1 : List Addr) (sg : List G) (i : Nat) (H : Hp) : St → Hp → Prop := fun σ H' => ∃ (L P : Addr) (tv pv : V) (ra : List Addr) (rs : List Run) (bs : List Addr) (cur : List G) (o1 : Option V), σ = [some (.ref l), some (.ref R), some (.ref L), some tv, o1, some (.ref P), some pv] ∧ AI H H' ∧ Shr H' R S P as1 sg ra rs bs cur pv (i + 1)
noncomputable def Csh2 (R : Addr) (gs : List G) (H : Hp) : St → Hp → Prop := fun σ H' => ∃ (o0 o2 o3 o4 o5 o6 : Option V) (ra : List Addr) (rs : List Run), σ = [o0, some (.ref R), o2, o3, o4, o5, o6] ∧ AI H H' ∧ TF H' R ra rs gs
theorem Nc (T : Tx K mg) : Ao P w K mg base CX0 8 T.Jq T.Hu ["gates"] (Ot K) := by
 refine T.JK.F.ok Ax (fun vs H Q E h => ?_) (fun cdv A outer s H vs Q E hr h => ?_)
 ·obtain ⟨l, as, gs, rfl, hl, ga, nd, h40, ok, k⟩ := h
  rfl
 ·obtain ⟨l, as, gs, rfl, hl, ga, nd, h40, ok, k⟩ := h
  have hu := Ad hr
  refine ⟨_, (AD (pst 1 Ax (Ae AC))
   (AD (pst 2 Ax (Ae AC))
   (AD (pst 3 Ax GD)
   (AD (BA PassesOwn.never rfl (BL (AJ Bn (by rfl) T.Bh BN (AA (pv 0) AC))) (pgn 4 Ax)
    (AD (pst 5 Ax (AF Lw (pv 2) (Ae (AA (pv 4) AC))))
     (AD (pst 6 Ax (pcl T.B5 (CK T) hr AW (AA (pv 5) AC)))
     (BY (AY (ptc Om (pv 6) GD) (AD (BC (CW (pv 1) (pcl T.KG (NB T) hr AW (AA (pv 2) (AA (pv 3) AC)))))
       (AD (pst 5 Ax (Ae (AA (pv 4) AC)))
       (AE (pst 6 Ax (pcl T.B5 (CK T) hr AW (AA (pv 5) AC))))))
      AL)
     (AD (pst 2 Ax (pv 5))
     (AE (pst 3 Ax (pv 6))))))))
   (BY (AY (ptc Cq (AJ AT (by rfl) T.Az Ap (AA (pv 2) AC)) AB) (AE (BC (CW (pv 1) (pcl T.KG (NB T) hr AW (AA (pv 2) (AA (pv 3) AC))))))
    AL)
   (AE (AH (pv 1)))))))), ?_⟩
  walk_at "RD"
  refine ⟨by decide, fun R H1 nR s1 eR => ?_⟩
  refine ⟨by decide, fun L H2 nL s2 eL => ?_⟩
  have s12 := s1.trans s2
  have hne : L ≠ R := fun z => by rw [z, eR] at nL; cases nL
  refine ⟨_, rfl, l, rfl, as, gs, s12.seq hl, ga.same s12, nd, by lia, fun S H3 as1 sg nS s3 e3 ga1 hp ha => ?_⟩
  have lg := hp.length_eq
  have ok1 : ∀ g ∈ sg, OkG g := fun g hg => ok g (hp.mem_iff.mp hg)
  have la1 := ga1.len
  have hneS : S ≠ R := fun z => by
   have := s2.get eR
   rw [z, this] at nS; cases nS
  refine ⟨S, rfl, ⟨_, SqL.of e3⟩, Ci (xs := as1.map V.ref) (Wsh l R S as1 sg H) ⟨L, .non, [], [], [], [], none, none, none, rfl, s12.trans s3, ⟨s3.get (s2.get eR), .nil, s3.get eL, .nil, hne, e3, ga1, hneS, rfl, .inl ⟨rfl, rfl, rfl⟩⟩⟩ (fun i σ H4 _ ⟨_, _, _, _, _, _, _, _, _, _, _, sh⟩ => SqL.of sh.eS) ?_ ?_⟩
  ·clear hneS e3 ga1 nS eL nL hne s12 s2 s3 eR
   rintro i vv σ H4 hx ⟨L, tv, ra, rs, bs, cur, o1, o2, o3, rfl, s4, sh⟩
   have hi : i < sg.length := by
    have := (List.getElem?_eq_some_iff.mp hx).1
    rw [List.length_map] at this
    lia
   obtain ⟨ea, fe, ee⟩ := sh.gS.get (List.getElem?_eq_getElem hi)
   have ex : vv = V.ref ea := by
    rw [List.getElem?_map, fe] at hx
    exact (Option.some.inj hx).symm
   subst ex
   have gu := List.getElem?_eq_getElem hi
   have et : sg.take (i + 1) = sg.take i ++ [sg[i]] := List.take_succ_eq_append_getElem hi
   have ou := ok1 _ (List.getElem_mem hi)
   generalize sg[i] = u at ee gu et ou
   have eL := sh.eL
   have spl : (rs.flatMap Run.all ++ cur).length = i := by
    rw [sh.sp, List.length_take]; lia
   rw [List.length_append] at spl
   have hcl : cur.length ≤ i := by lia
   have lbs := sh.gb.len
   have okc : ∀ g ∈ cur, OkG g := fun g hg => ok1 g (List.mem_of_mem_take (i := i) (by rw [← sh.sp]; exact List.mem_append_right _ hg))
   have ascc : Asc (rs.flatMap Run.all ++ cur ++ [u]) := by rw [sh.sp, ← et]; exact ha.take' _
   have ascu : Asc (cur ++ [u]) := by rw [List.append_assoc] at ascc; exact ascc.right
   walk_at "RD"
   refine ⟨by decide, fun B H5 nB s5 eB => ⟨_, s5.get eL, _, eB, by rw [List.length_map, PySem.sizeLine_eq]; simp; lia, fun P H6 nP s6 eP => ?_⟩⟩
   have s46 := s5.trans s6
   have sh6 := sh.same s46
   have nPR : P ≠ R := fun z => by
    have := s5.get sh.eR
    rw [z, this] at nP; cases nP
   have eP' : H6 P = some (.lst ((bs ++ [ea]).map V.ref)) := by rw [eP, List.map_append]; rfl
   have gP : At H6 (bs ++ [ea]) (cur ++ [u]) := (sh.gb.same s46).snoc (s46.get ee)
   unfold DY
   refine ⟨_, bs ++ [ea], cur ++ [u], rfl, SqL.of eP', gP, ascu, by rw [List.length_append]; simp; lia, fun g hg => ?_, fun H7 s7 nb => ?_, fun q H7 t s7 e7 ot all => ?_⟩
   ·rcases List.mem_append.mp hg with z | z
    ·exact okc g z
    ·rw [List.mem_singleton.mp z]; exact ou
   ·refine ⟨Csh l R S as1 sg i H, ?_, ?_⟩
    ·have s47 := s46.trans s7
     have sh7 := sh.same s47
     rcases sh7.th with ⟨z, _, _⟩ | ⟨q, t, g, rest, e1, e2, ot, all, ec, far⟩
     ·subst z
      exact absurd (MK (by simp)) nb
     subst e1
     subst ec
     have eR7 := sh7.eR
     have eL7 := sh7.eL
     walk_at "RD"
     walk_at "AUTO"
     unfold Hy
     refine ⟨_, _, bs, g, rest, t, rfl, SqL.of eL7, sh7.gb, e2, ot, all, fun D H8 s8 rn => ?_⟩
     have sh8 := sh7.same s8
     have lra := Paired.length sh8.at_
     have lrs := UO rs
     refine ⟨_, sh8.eR, by rw [List.length_map, PySem.sizeLine_eq]; lia, ?_⟩
     have hR8 := sh8.eR
     have sHU : AI H (L2.upd H8 R (.lst (ra.map V.ref ++ [.ref D]))) := (s4.trans (s47.trans s8)).updFresh nR
     have eRU : L2.upd H8 R (.lst (ra.map V.ref ++ [.ref D])) R = some (.lst ((ra ++ [D]).map V.ref)) := by rw [AQ, List.map_append]; rfl
     have eSU : L2.upd H8 R (.lst (ra.map V.ref ++ [.ref D])) S = some (.lst (as1.map V.ref)) := by rw [AN sh8.neS]; exact sh8.eS
     have gSU := sh8.gS.upd (u := .lst (ra.map V.ref ++ [.ref D])) hR8 (by intro ys z; cases z)
     have eaU : L2.upd H8 R (.lst (ra.map V.ref ++ [.ref D])) ea = some (.tup (G.vs u)) := by
      have e8 := s8.get (s47.get ee)
      rw [AN (Be e8 hR8 (by intro z; cases z))]
      exact e8
     have atU : Paired (J0 (L2.upd H8 R (.lst (ra.map V.ref ++ [.ref D])))) (ra ++ [D]) (rs ++ [⟨g, rest, t⟩]) := Paired.snoc (Paired.mapP sh8.at_ fun _ _ e => e.updL hR8) (rn.updL hR8)
     generalize L2.upd H8 R (.lst (ra.map V.ref ++ [.ref D])) = HU at sHU eRU eSU gSU eaU atU
     refine ⟨by decide, fun B2 H9 nB2 s9 eB2 => ?_⟩
     have nB2R : B2 ≠ R := fun z => by rw [z, eRU] at nB2; cases nB2
     refine ⟨[ea], SqL.of eB2, [u], .cons (s9.get eaU) .nil, List.pairwise_singleton _ _, by simp, fun g hg => by rw [List.mem_singleton.mp hg]; exact ou, fun _ _ z => absurd (MK (by simp)) z, fun q2 HA t2 sA eA ot2 all2 => ?_⟩
     have sUA := s9.trans sA
     refine ⟨L, B2, _, .ref q2, ra ++ [D], rs ++ [⟨g, rest, t⟩], [ea], [u], _, rfl, sHU.trans sUA, ⟨sUA.get eRU, Paired.mapP atU fun _ _ e => e.same sUA, sA.get eB2, .cons (sUA.get eaU) .nil, nB2R, sUA.get eSU, gSU.same sUA, sh8.neS, ?_, .inr ⟨q2, t2, u, [], rfl, eA, ot2, all2, rfl, Rg far nb⟩⟩⟩
     rw [List.flatMap_append, R3, et, ← sh8.sp]
    ·rintro σ H8 ⟨L, P, tv, pv, ra, rs, bs, cur, o1, rfl, s8, sh⟩
     walk_at "RD"
     exact ⟨P, pv, ra, rs, bs, cur, _, _, _, rfl, s8, sh⟩
   ·refine ⟨Csh l R S as1 sg i H, ?_, ?_⟩
    ·walk_at "RD"
     walk_at "AUTO"
     have sh7 := sh6.same s7
     have far' : ∃ g rest, cur ++ [u] = g :: rest ∧ Far (rs ++ [⟨g, rest, t⟩]) := by
      rcases sh7.th with ⟨z, z2, _⟩ | ⟨q, t', g, rest, e1, e2, ot', all', ec, far⟩
      ·subst z
       subst z2
       exact ⟨u, [], rfl, trivial⟩
      ·subst ec
       exact ⟨g, rest ++ [u], rfl, Rk far rfl⟩
     obtain ⟨g, rest, ec, far⟩ := far'
     refine ⟨L, P, _, .ref q, ra, rs, bs ++ [ea], cur ++ [u], _, rfl, s4.trans (s46.trans s7), ⟨sh7.eR, sh7.at_, s7.get eP', gP.same s7, nPR, sh7.eS, sh7.gS, sh7.neS, ?_, .inr ⟨q, t, g, rest, rfl, e7, ot, all, ec, far⟩⟩⟩
     rw [et, ← sh.sp, List.append_assoc]
    ·rintro σ H8 ⟨L, P, tv, pv, ra, rs, bs, cur, o1, rfl, s8, sh⟩
     walk_at "RD"
     exact ⟨P, pv, ra, rs, bs, cur, _, _, _, rfl, s8, sh⟩
  ·rintro σ H4 ⟨L, tv, ra, rs, bs, cur, o1, o2, o3, rfl, s4, sh⟩
   rw [List.length_map, la1] at sh
   have eL := sh.eL
   have lbs := sh.gb.len
   have spt := sh.sp
   rw [List.take_length] at spt
   refine ⟨Csh2 R gs H, ?_, ?_⟩
   ·walk_at "RD"
    walk_at "AUTO"
    rw [List.length_map, lbs]
    rcases sh.th with ⟨z, z2, z3⟩ | ⟨q, t, g, rest, e1, e2, ot, all, ec, far⟩
    ·subst z
     subst z2
     rw [if_neg (by simp)]
     have e0 : sg = [] := by simpa using spt.symm
     exact ⟨_, _, _, _, _, _, ra, [], rfl, s4, ⟨sh.eR, sh.at_, by rw [e0] at hp; exact hp, by simp [Asc], trivial⟩⟩
    ·subst e1
     subst ec
     have eR := sh.eR
     rw [if_pos (by simp)]
     walk_at "AUTO"
     unfold Hy
     refine ⟨_, _, bs, g, rest, t, rfl, SqL.of eL, sh.gb, e2, ot, all, fun D H8 s8 rn => ?_⟩
     have sh8 := sh.same s8
     have lra := Paired.length sh8.at_
     have lrs := UO rs
     have spl := congrArg List.length spt
     rw [List.length_append] at spl
     have hR8 := sh8.eR
     refine ⟨_, sh8.eR, by rw [List.length_map, PySem.sizeLine_eq]; lia, ?_⟩
     have spl2 : (rs ++ [(⟨g, rest, t⟩ : Run)]).flatMap Run.all = sg := by rw [List.flatMap_append, R3]; exact spt
     refine ⟨_, _, _, _, _, _, ra ++ [D], rs ++ [⟨g, rest, t⟩], rfl, (s4.trans s8).updFresh nR, ⟨by rw [AQ, List.map_append]; rfl, Paired.snoc (Paired.mapP sh8.at_ fun _ _ e => e.updL hR8) (rn.updL hR8), by rw [spl2]; exact hp, by rw [spl2]; exact ha, far⟩⟩
   ·rintro σ H5 ⟨o0, o2, o3, o4, o5, o6, ra, rs, rfl, s5, rr⟩
    walk_at "RD"
    exact k R H5 ra rs nR s5 rr
theorem Bp : AO ["ordered", "throws", "index", "earlier", "later"] ["ordered"] (AG EC) := by walk_at "SC"
structure TrA (H : Hp) (TL : Addr) (gs : List G) (n : Nat) (don : Nat → Nat → Prop) (qs : List Addr) (ts : List Thr) : Prop where
 eT : H TL = some (.lst (qs.map V.ref))
 pr : Paired (fun q (t : Thr) => H q = some (.tup t.vs)) qs ts
 ok : ∀ t ∈ ts, OkT t
 one : ∃ t ∈ ts, ∃ g ∈ gs, t.pas g
 len : qs.length ≤ n
 two : ∀ (i j : Nat) (x y : G), gs[i]? = some x → gs[j]? = some y → i < j → don i j → ∃ t ∈ ts, ∀ g : G, t.pas g ↔ Im (x.f * y.p - y.h * x.p) (y.h - x.f) (y.p - x.p) g
theorem TrA.same {H H' : Hp} {TL : Addr} {gs : List G} {n : Nat} {don : Nat → Nat → Prop} {qs : List Addr} {ts : List Thr} (h : TrA H TL gs n don qs ts) (s : AI H H') : TrA H' TL gs n don qs ts := ⟨s.get h.eT, Paired.mapP h.pr fun _ _ e => s.get e, h.ok, h.one, h.len, h.two⟩
noncomputable def NN (K : PySem.W.Frag) : Sp := fun vs H Q _ => ∃ (l : Addr) (as : List Addr) (gs : List G), vs = [.ref l] ∧ SqL K H l (as.map V.ref) ∧ At H as gs ∧ Asc gs ∧ 1 ≤ gs.length ∧ gs.length ≤ 12 ∧ (∀ g ∈ gs, OkG g) ∧ ∀ (D : Addr) (H' : Hp) (qs : List Addr) (ts : List Thr), H D = none → AI H H' → H' D = some (.lst (qs.map V.ref)) → Paired (fun q (t : Thr) => H' q = some (.tup t.vs)) qs ts → qs.length ≤ 200 → X2 gs ts → Q (.ref D) H'
noncomputable def Wm1 (l TL : Addr) (gs : List G) (H : Hp) : Nat → St → Hp → Prop := fun i σ H' => ∃ (o2 o3 o4 : Option V) (qs : List Addr) (ts : List Thr), σ = [some (.ref l), some (.ref TL), o2, o3, o4] ∧ AI H H' ∧ TrA H' TL gs (1 + 12 * i) (fun a _ => a < i) qs ts
noncomputable def Wm2 (l TL ea : Addr) (gs : List G) (H : Hp) (i : Nat) : Nat → St → Hp → Prop := fun j σ H' => ∃ (o4 : Option V) (qs : List Addr) (ts : List Thr), σ = [some (.ref l), some (.ref TL), some (.int (i : Int)), some (.ref ea), o4] ∧ AI H H' ∧ TrA H' TL gs (1 + 12 * i + j) (fun a c => a < i ∨ a = i ∧ c < i + 1 + j) qs ts
theorem NI (T : Tx K mg) : Ao P w K mg base CX0 8 T.Hg T.Gu ["ordered"] (NN K) := by
 refine T.HZ.F.ok Bp (fun vs H Q E h => ?_) (fun cdv A outer s H vs Q E hr h => ?_)
 ·obtain ⟨l, as, gs, rfl, hl, ga, ha, l1, l12, ok, k⟩ := h
  rfl
 ·obtain ⟨l, as, gs, rfl, hl, ga, ha, l1, l12, ok, k⟩ := h
  have hu := Ad hr
  refine ⟨_, (AD (pst 1 Bp (Ae (AA (pcl T.B5 (CK T) hr AW (AA (FY FV (pv 0) IZ (IT AB)) AC)) AC)))
   (AD (BA PassesOwn.never rfl (Q6 (by rfl) T.HQ (AA (pv 0) AC)) (Et (n := 2) rfl (Am (pgn 2 Bp) (Am (pgn 3 Bp) Ch)))
    (AE (BA PassesOwn.never rfl (BL (FY FV (pv 0) (IT (AF Ak (pv 2) AB)) IZ)) (pgn 4 Bp)
      (AE (BC (CW (pv 1) (pcl T.L8 (N4 T) hr AW (AA (pxi AK (pv 3) AB) (AA (pxi AK (pv 3) AB) (AA (pxi AK (pv 4) AB) (AA (pxi AK (pv 4) AB) AC)))))))))))
   (AE (AH (pv 1))))), ?_⟩
  have la := ga.len
  have h0 : 0 < gs.length := by lia
  walk_at "Q"
  walk_at "RD"
  walk_at "AUTO"
  have he' : H' p = some (.lst ((as.take 1).map V.ref)) := by rw [he, show (1 : Int) = ((1 : Nat) : Int) from rfl, F6, List.map_take]
  have gaT := (ga.same hs).takeG 1
  have lT : (gs.take 1).length ≤ 1 := by rw [List.length_take]; lia
  refine ⟨p, as.take 1, gs.take 1, rfl, SqL.of he', gaT, List.Pairwise.sublist (List.take_sublist _ _) ha, by lia, fun g hg => ok g (List.mem_of_mem_take hg), fun H1 s1 z => absurd (MK (by lia)) z, fun q0 H1 t0 s1 e1 ot0 al0 => ⟨by decide, fun TL H2 nT s2 eT => ?_⟩⟩
  walk_at "NX"
  have s02 := hs.trans (s1.trans s2)
  have nT0 : H TL = none := (hs.trans s1).free nT
  have one0 : ∃ t ∈ [t0], ∃ g ∈ gs, t.pas g := ⟨t0, by simp, gs[0], List.getElem_mem h0, al0 _ (by
   have := List.take_succ_eq_append_getElem (l := gs) (i := 0) h0
   rw [this]; simp)⟩
  clear he' gaT lT al0 nT he hn
  walk_at "Q"
  refine ⟨_, rfl, l, rfl, ⟨_, s02.seq hl⟩, Nn (xs := as.map V.ref) (Wm1 l TL gs H) ⟨none, none, none, [q0], [t0], rfl, s02, ⟨eT, .cons (s2.get e1) .nil, fun t ht => by rw [List.mem_singleton.mp ht]; exact ot0, one0, by simp, fun _ _ _ _ _ _ _ z => absurd z (by lia)⟩⟩ (fun i σ H3 _ ⟨_, _, _, _, _, _, s3, _⟩ => s3.seq hl) ?_ ?_⟩
  ·rintro i vv σ H3 pp H4 hx ⟨o2, o3, o4, qs, ts, rfl, s3, tr⟩ hn s4 e4
   have hi : i < gs.length := by
    have := (List.getElem?_eq_some_iff.mp hx).1
    rw [List.length_map] at this
    lia
   obtain ⟨ea, fe, ee⟩ := ga.get (List.getElem?_eq_getElem hi)
   have ex : vv = V.ref ea := by
    rw [List.getElem?_map, fe] at hx
    exact (Option.some.inj hx).symm
   subst ex
   have s04 := s3.trans s4
   have gu := List.getElem?_eq_getElem hi
   generalize hu0 : gs[i] = u at ee gu
   have ou := ok u (List.mem_of_getElem? gu)
   delta Kx EJ La
   refine ⟨_, SqT.of e4, rfl, _, _, rfl, _, _, rfl, rfl, ?_⟩
   refine ⟨_, rfl, _, rfl, _, _, rfl, rfl, _, rfl, l, rfl, _, s04.seq hl, fun S H5 nS s5 eS => ?_⟩
   rw [show (i : Int) + 1 = ((i + 1 : Nat) : Int) by lia, P4, ← List.map_drop] at eS
   have s05 := s04.trans s5
   have trS := (tr.same s4).same s5
   have neS : S ≠ TL := fun z => by
    have := (tr.same s4).eT
    rw [z, this] at nS
    cases nS
   refine ⟨S, rfl, ⟨_, SqL.of eS⟩, Ci (xs := (as.drop (i + 1)).map V.ref) (fun j σ H' => Wm2 l TL ea gs H i j σ H' ∧ H' S = some (.lst ((as.drop (i + 1)).map V.ref))) ⟨⟨o4, qs, ts, rfl, s05, ⟨trS.eT, trS.pr, trS.ok, trS.one, by have := trS.len; lia, fun a c x y h1 h2 h3 h4 => trS.two a c x y h1 h2 h3 (by lia)⟩⟩, eS⟩ (fun j σ H6 _ ⟨_, z⟩ => SqL.of z) ?_ ?_⟩
   ·rintro j vv σ H6 hx ⟨⟨o4, qs, ts, rfl, s6, tr⟩, eS6⟩
    have hj : i + 1 + j < gs.length := by
     have := (List.getElem?_eq_some_iff.mp hx).1
     rw [List.length_map, List.length_drop] at this
     lia
    obtain ⟨la', fl, el⟩ := ga.get (List.getElem?_eq_getElem hj)
    have ex : vv = V.ref la' := by
     rw [List.getElem?_map, List.getElem?_drop, fl] at hx
     exact (Option.some.inj hx).symm
    subst ex
    have gv := List.getElem?_eq_getElem hj
    generalize hv0 : gs[i + 1 + j] = v at el gv
    have ov := ok v (List.mem_of_getElem? gv)
    have eu6 := s6.get ee
    have ev6 := s6.get el
    have luv := DR ha gu gv (by lia)
    obtain ⟨p1, p2, p3, p4, p5⟩ := id ou
    obtain ⟨q1, q2, q3, q4, q5⟩ := id ov
    delta KA
    refine ⟨⟨_, tr.eT⟩, _, SqT.of eu6, _, rfl, _, SqT.of eu6, _, rfl, _, SqT.of ev6, _, rfl, _, SqT.of ev6, _, rfl, _, rfl, _, rfl, _, rfl, _, rfl, by lia, by lia, by lia, by lia, by lia, fun q H7 x1 y1 z1 v1 s7 e7 Lw1 Lw2 => ?_⟩
    have lo := Sg luv Lw1 Lw2
    have ot := US (by lia) (by lia) (by lia) (by lia) Lw1 Lw2
    have tr7 := tr.same s7
    have ll := tr.len
    have nq : ∀ b xs, H7 b = some (.tup xs) → b ≠ TL := fun b xs e z => by rw [z, tr7.eT] at e; cases e
    refine ⟨_, tr7.eT, by rw [List.length_map, PySem.sizeLine_eq]; lia, ⟨_, qs ++ [q], ts ++ [⟨x1, y1, z1, v1⟩], rfl, (s6.trans s7).updFresh nT0, ⟨by rw [AQ, List.map_append]; rfl, ?_, ?_, ?_, ?_, ?_⟩⟩, ?_⟩
    ·exact Paired.snoc (Paired.mapP tr7.pr fun b t e => (AN (nq b _ e)).trans e) ((AN (nq q _ e7)).trans e7)
    ·intro t ht
     rcases List.mem_append.mp ht with z | z
     ·exact tr7.ok t z
     ·rw [List.mem_singleton.mp z]; exact ot
    ·obtain ⟨t, ht, g', hg', pg'⟩ := tr7.one
     exact ⟨t, List.mem_append_left _ ht, g', hg', pg'⟩
    ·rw [List.length_append]
     simp only [List.length_cons, List.length_nil]
     lia
    ·intro a c x y h1 h2 h3 h4
     by_cases hc : a < i ∨ a = i ∧ c < i + 1 + j
     ·obtain ⟨t, ht, ht2⟩ := tr7.two a c x y h1 h2 h3 hc
      exact ⟨t, List.mem_append_left _ ht, ht2⟩
     ·have ea' : a = i := by lia
      have ec' : c = i + 1 + j := by lia
      subst ea' ec'
      rw [gu] at h1
      rw [gv] at h2
      cases h1
      cases h2
      exact ⟨_, List.mem_append_right _ (List.mem_singleton.mpr rfl), lo.1⟩
    ·exact (AN neS).trans (s7.get eS6)
   ·rintro σ H6 ⟨⟨o4, qs, ts, rfl, s6, tr⟩, eS6⟩
    refine ⟨_, _, _, qs, ts, rfl, s6, ⟨tr.eT, tr.pr, tr.ok, tr.one, ?_, fun a c x y h1 h2 h3 h4 => tr.two a c x y h1 h2 h3 ?_⟩⟩
    ·have := tr.len
     rw [List.length_map, List.length_drop] at this
     lia
    ·have : c < gs.length := (List.getElem?_eq_some_iff.mp h2).1
     rw [List.length_map, List.length_drop, la]
     lia
  rintro σ H3 ⟨o2, o3, o4, qs, ts, rfl, s3, tr⟩
  refine hM _ _ ?_
  clear hM M
  walk_at "RD"
  refine k TL H3 qs ts nT0 s3 tr.eT tr.pr ?_ ⟨fun z => ?_, tr.ok, tr.one, fun x hx y hy lt => ?_⟩
  ·have := tr.len
   rw [List.length_map] at this
   lia
  ·obtain ⟨t, ht, _⟩ := tr.one
   rw [z] at ht
   exact absurd ht (by simp)
  ·obtain ⟨a, ea⟩ := List.mem_iff_getElem?.mp hx
   obtain ⟨c, ec⟩ := List.mem_iff_getElem?.mp hy
   have hac := Ie ha ea ec lt
   exact tr.two a c x y ea ec hac (by rw [List.length_map, la]; exact (List.getElem?_eq_some_iff.mp ea).1)
theorem El : AO ["gates", "ordered", "tried"] ["gates"] (AG GG) := by walk_at "SC"
noncomputable def Pk (K : PySem.W.Frag) : Sp := fun vs H Q _ => ∃ (l : Addr) (as : List Addr) (gs : List G), vs = [.ref l] ∧ SqL K H l (as.map V.ref) ∧ At H as gs ∧ (gs.map G.p).Nodup ∧ 1 ≤ gs.length ∧ gs.length ≤ 12 ∧ (∀ g ∈ gs, OkG g) ∧ LM.Tbl H Fk MN U8 ∧ ∀ D H' L q t sg, H L = none → Oe Fk H H' → LM.Tbl H' Fk MN U8 → NZ H' D gs L q t sg → Q (.ref D) H'
theorem Pn (T : Tx K mg) : Ao P w K mg base CX0 9 T.LL T.Ei ["gates"] (Pk K) := by
 refine LM.Fun.okL T.Ko.F T.PJ El (fun vs H Q E h => ?_) (fun cdv A outer s H vs Q E la hr h => ?_)
 ·obtain ⟨l, as, gs, rfl, hl, ga, nd, l1, l12, ok, tb, k⟩ := h
  rfl
 ·obtain ⟨l, as, gs, rfl, hl, ga, nd, l1, l12, ok, tb, k⟩ := h
  have hu := Ad hr
  refine ⟨_, (AD (pst 1 El (AJ Bn (by rfl) T.Bh BN (AA (pv 0) AC)))
   (AD (Fy (i := 2) rfl El.nd rfl (Or.inl rfl) (⟨rfl, by decide +kernel, by decide +kernel, by decide +kernel, rfl, by decide +kernel, by with_unfolding_all rfl, by rfl, by rfl, by rfl⟩ : BI _ _ "throw" ["ordered"] [1]) (BL (pcl T.HZ (NI T) hr AW (AA (pv 1) AC))) (fun _ _ _ _  => (Ai (AA (pcl T.DU (FD T) hr AW (AA (pv 0) (AA (pv 1) AC))) (AA (pv 0) AC)))) (fun _ _ _ _ => Ik))
   (AE (AH (LM.XE (x := "told") (by rfl) T.Rv T.Az (hr.mono (by decide)) la (by exact ⟨rfl, rfl, fun _ _ _ _ _ _ _ _ => rfl, rfl, rfl, by decide, rfl, rfl, rfl, by decide, fun _ => rfl⟩) (pv 2)))))), ?_⟩
  have la := ga.len
  walk_at "Q"
  walk_at "RD"
  walk_at "AUTO"
  intro S H1 as1 sg nS s1 eS ga1 hp ha
  walk_at "NX"
  have lsg : sg.length = gs.length := hp.length_eq
  have oks : ∀ g ∈ sg, OkG g := fun g hg => ok g (hp.mem_iff.mp hg)
  walk_at "Q"
  refine ⟨_, rfl, S, as1, sg, rfl, SqL.of eS, ga1, ha, by lia, by lia, oks, fun TL H2 qs ts nT s2 eT pr lq tr => ⟨TL, rfl, ⟨_, SqL.of eT⟩, fun D nD => ?_⟩⟩
  refine VN (as := qs) (bs := ts) (fun H q t => H q = some (.tup t.vs)) (fun _ _ _ _ s e => s.get e)
   (fun H y q t => ∃ p L, y = V.ref p ∧ L ≠ D ∧ H1 L = none ∧ H p = some (.tup [.ref L, .ref q]) ∧ H L = some (.lst ((AU (sg.filter (Tq t.a t.b t.c t.d))).map V.int)) ∧ H q = some (.tup t.vs))
   (fun _ _ _ _ _ s ⟨p, L, e1, e2, e3, e4, e5, e6⟩ => ⟨p, L, e1, e2, e3, s.get e4, s.get e5, s.get e6⟩) ?_ (SqL.of eT) pr nD (by lia) ?_ ?_
  ·rintro H3 v q t xs ys h1 h2 ⟨p, L, e1, e2, e3, e4, e5, e6⟩
   have n1 : p ≠ D := fun z => by rw [z, h1] at e4; cases e4
   have n2 : q ≠ D := fun z => by rw [z, h1] at e6; cases e6
   exact ⟨p, L, e1, e2, e3, (AN n1).trans e4, (AN e2).trans e5, (AN n2).trans e6⟩
  ·intro q t H3 R ht s3 hD eq kR
   have ot := tr.ok t ht
   refine ⟨_, rfl, _, rfl, q, S, t.a, t.b, t.c, t.d, as1, sg, rfl, eq, Qx ot.b0 ot.d0 ot.a1 ot.b1 ot.c1 ot.d1, (s2.trans s3).seq (SqL.of eS), ga1.same (s2.trans s3), by lia, oks, fun L H4 nL s4 eL => ?_⟩
   refine ⟨_, rfl, by show 2 ≤ _; rw [PySem.sizeLine_eq]; decide, fun p H5 nP s5 eP => ?_⟩
   exact kR _ _ (s4.trans s5) ⟨p, L, rfl, fun z => hD (by rw [← z]; exact nL), (s2.trans s3).free nL, eP, s5.get eL, (s4.trans s5).get eq⟩
  ·intro H3 ys s3 eD ly prs
   walk_at "NX"
   have lqt : qs.length = ts.length := Paired.length pr
   have s03 := s1.trans (s2.trans s3)
   have tb3 := Dw tb s03
   obtain ⟨pt, ept⟩ := tb3.tab
   have l0 : 0 < ts.length := List.length_pos_iff.mpr tr.ne
   refine ⟨_, rfl, D, ys, (fun i => match ts[i]? with | some t => Ws sg t | none => 0), rfl, SqL.of eD, by lia, tb3, fun i y hy => ?_, fun i y H4 hy best tb4 k4 => ?_⟩
   ·obtain ⟨q, t, h1, h2, p, L, rfl, nLD, nL, e4, e5, e6⟩ := prs i y hy
    refine ⟨p, L, [.ref q], _, rfl, SqT.of e4, SqL.of e5, ?_⟩
    dsimp only
    rw [h2, List.length_map, AU, List.length_map]
    rfl
   ·obtain ⟨q, t, h1, h2, p, L, rfl, nLD, nL, e4, e5, e6⟩ := prs i y hy
    have n1 : p ≠ Fk := fun z => by rw [z, ept] at e4; cases e4
    have n2 : L ≠ Fk := fun z => by rw [z, ept] at e5; cases e5
    have n3 : q ≠ Fk := fun z => by rw [z, ept] at e6; cases e6
    refine k p H4 L q t sg (s1.free nL) (fun b u n e => k4 b u n (s03.get e)) tb4 ⟨k4 p _ n1 e4, k4 L _ n2 e5, k4 q _ n3 e6, tr.ok t (List.mem_of_getElem? h2), hp, ha, fun u w m hm ps hs hpp => Sx tr oks ha (fun t' ht' => ?_) u w m hm ps hs hpp⟩
    obtain ⟨j, ej⟩ := List.mem_iff_getElem?.mp ht'
    have hj := (List.getElem?_eq_some_iff.mp ej).1
    have := (best j (by lia)).1
    dsimp only at this
    rw [ej, h2] at this
    exact this
theorem JL : AO ["gate", "number"] ["gate"] (AG F2) := by walk_at "SC"
noncomputable def Pp {K : PySem.W.Frag} {mg : Str → Option Value} (T : Tx K mg) : Sp := fun vs H Q E => ∃ (q : Addr) (p f h : Int), vs = [.ref q] ∧ H q = some (.tup [.int p, .int f, .int h]) ∧ (∀ e, Df p f h = some e → E (T.err e) none H) ∧ (Df p f h = none → Q .non H)
theorem Jv (T : Tx K mg) : Ao P w K mg base (CXE P w) 1 T.LZ T.Je ["gate"] (Pp T) := by
 refine T.F4.F.okX JL (fun vs H Q E h => ?_) (fun cdv A outer s H vs Q E hr h => ?_)
 ·obtain ⟨q, p, f, h, rfl, hq, kE, k⟩ := h
  rfl
 ·obtain ⟨q, p, f, h, rfl, hq, kE, k⟩ := h
  have hu := Ad hr
  refine ⟨_, (AD (AY (ptc Cq (pxi AK (pv 0) AB) (pxi AK (pv 0) AB)) (AE (BQ D7 rfl T.RL (by rfl) T.Lv (AA AX AC)))
    AL)
   (AE (BA am rfl (Vz (pv 0)) (pgn 1 JL)
    (AE (AY (EW (ptc Da (pv 1) (EX (v := .int (-1000)) (by rfl) T.Xe T.Xg)) (C1 (ptc Cq (pv 1) (EX (v := .int (1000)) (by rfl) T.Tu T.TX)))).pt (AE (BQ D7 rfl T.Ju (by rfl) T.Eu (AA AX AC)))
      AL))))), ?_⟩
  walk_at "RD"
  walk_at "AUTO"
  unfold Df at kE k
  by_cases hf : h < f
  ·rw [if_pos (decide_eq_true hf)]
   rw [if_pos hf] at kE
   exact ⟨by decide, kE _ rfl⟩
  rw [if_neg (fun z => hf (of_decide_eq_true z))]
  rw [if_neg hf] at kE k
  refine ⟨_, rfl, q, rfl, ⟨_, SqT.of hq⟩, UV (xs := [V.int p, V.int f, V.int h]) (fun i σ H' => ∃ o, σ = [some (.ref q), o] ∧ H' = H ∧ ∀ x ∈ [p, f, h].take i, InB x) ⟨none, rfl, rfl, fun _ z => absurd z (by simp)⟩ (fun _ _ _ _ ⟨_, _, e, _⟩ => SqT.of (e ▸ hq)) ?_ ?_⟩
  ·rintro i v σ H1 hx ⟨o, rfl, rfl, hi⟩
   have hil : i < [p, f, h].length := (List.getElem?_eq_some_iff.mp hx).1
   have ev : v = V.int [p, f, h][i] := by
    have hx : ([p, f, h].map V.int)[i]? = some v := hx
    rw [List.getElem?_map, List.getElem?_eq_getElem hil] at hx
    exact (Option.some.inj hx).symm
   subst ev
   have hmem := List.getElem_mem hil
   have htk : [p, f, h].take (i + 1) = [p, f, h].take i ++ [[p, f, h][i]] := List.take_succ_eq_append_getElem hil
   generalize [p, f, h][i] = x at *
   walk_at "RD"
   by_cases h1 : x < -1000
   ·rw [if_pos (decide_eq_true h1)]
    rw [if_neg (fun z => by simp at hmem; rcases hmem with rfl | rfl | rfl <;> lia)] at kE
    exact ⟨by decide, kE _ rfl⟩
   rw [if_neg (fun z => h1 (of_decide_eq_true z))]
   by_cases h2 : 1000 < x
   ·rw [if_pos (decide_eq_true h2)]
    rw [if_neg (fun z => by simp at hmem; rcases hmem with rfl | rfl | rfl <;> lia)] at kE
    exact ⟨by decide, kE _ rfl⟩
   rw [if_neg (fun z => h2 (of_decide_eq_true z))]
   refine ⟨⟨_, rfl⟩, fun y hy => ?_⟩
   rw [htk] at hy
   rcases List.mem_append.mp hy with z | z
   ·exact hi y z
   ·rw [List.mem_singleton.mp z]
    exact ⟨by lia, by lia⟩
  ·rintro σ H1 ⟨o, rfl, rfl, hi⟩
   exact k (if_pos ⟨hi p (by simp), hi f (by simp), hi h (by simp)⟩)
theorem NJ : AO ["places"] ["places"] (AG D5) := by walk_at "SC"
noncomputable def NK {K : PySem.W.Frag} {mg : Str → Option Value} (T : Tx K mg) : Sp := fun vs H Q E => ∃ (l : Addr) (ps : List Int), vs = [.ref l] ∧ SqL K H l (ps.map V.int) ∧ ps.length < 4000 ∧ (Ed ps → ∀ H', AI H H' → E (T.err .badlist) none H') ∧ (¬ Ed ps → ∀ H', AI H H' → Q .non H')
theorem NS (T : Tx K mg) : Ao P w K mg base (CXE P w) 1 T.Hn T.Ga ["places"] (NK T) := by
 refine T.HN.F.okX NJ (fun vs H Q E h => ?_) (fun cdv A outer s H vs Q E hr h => ?_)
 ·obtain ⟨l, ps, rfl, hl, h4, kE, k⟩ := h
  rfl
 ·obtain ⟨l, ps, rfl, hl, h4, kE, k⟩ := h
  have hu := Ad hr
  refine ⟨_, (AD (AY (ptc Ay (AJ AT (by rfl) T.Az Ap (AA (pv 0) AC)) AB) (AE (BQ D7 rfl T.Mr (by rfl) T.ML (AA AX AC)))
    AL)
   (AD (AY (ptc Cq (AJ AT (by rfl) T.Az Ap (AA (pv 0) AC)) (EX (v := .int (40)) (by rfl) T.Lb T.Lr)) (AE (BQ D7 rfl T.Mr (by rfl) T.ML (AA AX AC)))
    AL)
   (AE (AY (ptc Da (AJ Ut (by rfl) T.Az Ap (AA (Bs (VM (by rfl)) (by rfl) T.z_set Zm (AA (pv 0) AC)) AC)) (AJ AT (by rfl) T.Az Ap (AA (pv 0) AC))) (AE (BQ D7 rfl T.Mr (by rfl) T.ML (AA AX AC)))
    AL)))), ?_⟩
  walk_at "RD"
  refine ⟨_, .inl hl, ?_⟩
  rw [List.length_map]
  by_cases h0 : ps.length = 0
  ·rw [if_pos (decide_eq_true (by lia))]
   exact ⟨by decide, kE (.inl (List.length_eq_zero_iff.mp h0)) _ (AI.refl _)⟩
  rw [if_neg (fun z => h0 (by have := of_decide_eq_true z; lia))]
  refine ⟨_, .inl hl, ?_⟩
  rw [List.length_map]
  by_cases h1 : 40 < ps.length
  ·rw [if_pos (decide_eq_true (by lia))]
   exact ⟨by decide, kE (.inr (.inl h1)) _ (AI.refl _)⟩
  rw [if_neg (fun z => h1 (by have := of_decide_eq_true z; lia))]
  refine ⟨ps, hl, h4, fun D H1 S n n1 s1 e1 le iff => ⟨S, n, e1, _, .inl (s1.seq hl), ?_⟩⟩
  rw [List.length_map]
  by_cases h2 : n < ps.length
  ·rw [if_pos (decide_eq_true (by lia))]
   exact ⟨by decide, kE (.inr (.inr fun z => by have := iff.mpr z; lia)) _ s1⟩
  rw [if_neg (fun z => h2 (by have := of_decide_eq_true z; lia))]
  refine k (fun z => ?_) _ s1
  rcases z with z | z | z
  ·rw [z] at h0; exact h0 rfl
  ·exact h1 z
  ·exact z (iff.mp (by lia))
theorem Hr : AO ["throw", "number"] ["throw"] (AG E2) := by walk_at "SC"
noncomputable def OL {K : PySem.W.Frag} {mg : Str → Option Value} (T : Tx K mg) : Sp := fun vs H Q E => ∃ (q : Addr) (a b c d : Int), vs = [.ref q] ∧ H q = some (.tup [.int a, .int b, .int c, .int d]) ∧ (Sq a b c d → E (T.err .badthrow) none H) ∧ (¬ Sq a b c d → Q .non H)
theorem Nx (T : Tx K mg) : Ao P w K mg base (CXE P w) 1 T.Jl T.IA ["throw"] (OL T) := by
 refine T.Jk.F.okX Hr (fun vs H Q E h => ?_) (fun cdv A outer s H vs Q E hr h => ?_)
 ·obtain ⟨q, a, b, c, d, rfl, hq, kE, k⟩ := h
  rfl
 ·obtain ⟨q, a, b, c, d, rfl, hq, kE, k⟩ := h
  have hu := Ad hr
  refine ⟨_, (AD (AY (EW (ptc Da (pxi AK (pv 0) AB) AB) (C1 (ptc Da (pxi AK (pv 0) AB) AB))).pt (AE (BQ D7 rfl T.Na (by rfl) T.OH (AA AX AC)))
    AL)
   (AE (BA am rfl (Vz (pv 0)) (pgn 1 Hr)
    (AE (AY (EW (ptc Da (pv 1) (Co Bv (EX (v := .int (999999999)) (by rfl) T.HY T.HV))) (C1 (ptc Cq (pv 1) (EX (v := .int (999999999)) (by rfl) T.HY T.HV)))).pt (AE (BQ D7 rfl T.Na (by rfl) T.OH (AA AX AC)))
      AL))))), ?_⟩
  walk_at "RD"
  walk_at "AUTO"
  by_cases h1 : b < 1
  ·rw [if_pos (decide_eq_true h1)]
   exact ⟨by decide, kE (.inl h1)⟩
  rw [if_neg (fun z => h1 (of_decide_eq_true z))]
  walk_at "AUTO"
  by_cases h2 : d < 1
  ·rw [if_pos (decide_eq_true h2)]
   exact ⟨by decide, kE (.inr (.inl h2))⟩
  rw [if_neg (fun z => h2 (of_decide_eq_true z))]
  refine ⟨_, rfl, q, rfl, ⟨_, SqT.of hq⟩, UV (xs := [V.int a, V.int b, V.int c, V.int d]) (fun i σ H' => ∃ o, σ = [some (.ref q), o] ∧ H' = H ∧ ∀ x ∈ [a, b, c, d].take i, ¬ (x < -999999999 ∨ 999999999 < x)) ⟨none, rfl, rfl, fun _ z => absurd z (by simp)⟩ (fun _ _ _ _ ⟨_, _, e, _⟩ => SqT.of (e ▸ hq)) ?_ ?_⟩
  ·rintro i v σ H1 hx ⟨o, rfl, rfl, hi⟩
   have hil : i < [a, b, c, d].length := (List.getElem?_eq_some_iff.mp hx).1
   have ev : v = V.int [a, b, c, d][i] := by
    have hx : ([a, b, c, d].map V.int)[i]? = some v := hx
    rw [List.getElem?_map, List.getElem?_eq_getElem hil] at hx
    exact (Option.some.inj hx).symm
   subst ev
   have hmem := List.getElem_mem hil
   have htk : [a, b, c, d].take (i + 1) = [a, b, c, d].take i ++ [[a, b, c, d][i]] := List.take_succ_eq_append_getElem hil
   generalize [a, b, c, d][i] = x at *
   walk_at "RD"
   by_cases h3 : x < -999999999
   ·rw [if_pos (decide_eq_true h3)]
    exact ⟨by decide, kE (.inr (.inr ⟨x, hmem, .inl h3⟩))⟩
   rw [if_neg (fun z => h3 (of_decide_eq_true z))]
   by_cases h4 : 999999999 < x
   ·rw [if_pos (decide_eq_true h4)]
    exact ⟨by decide, kE (.inr (.inr ⟨x, hmem, .inr h4⟩))⟩
   rw [if_neg (fun z => h4 (of_decide_eq_true z))]
   refine ⟨⟨_, rfl⟩, fun y hy => ?_⟩
   rw [htk] at hy
   rcases List.mem_append.mp hy with z | z
   ·exact hi y z
   ·rw [List.mem_singleton.mp z]
    exact fun z => z.elim h3 h4
  ·rintro σ H1 ⟨o, rfl, rfl, hi⟩
   refine k fun z => ?_
   rcases z with z | z | ⟨x, hx, z⟩
   ·exact h1 z
   ·exact h2 z
   ·exact hi x hx z
theorem PZ : AO ["self"] ["self"] (AG Fu) := by walk_at "SC"
noncomputable def JX {K : PySem.W.Frag} {mg : Str → Option Value} (T : Tx K mg) : Sp := fun vs H Q _ => ∃ (b dx : Addr), vs = [.ref b] ∧ H b = some (.ins T.AS dx []) ∧ ∀ H' S P, H S = none → H P = none → (∀ a u, a ≠ b → H a = some u → H' a = some u) → Bch T.AS H' b S P [S, P] [] [] → Q .non H'
theorem Wu {K : PySem.W.Frag} {mg : Str → Option Value} {T : Tx K mg} {H : Hp} {Q : Addr → Hp → Prop} {E : XK} (k : ∀ b S P H', H b = none → H S = none → H P = none → AI H H' → Bch T.AS H' b S P [S, P] [] [] → Q b H') :
  ∀ x dx, H x = none → H dx = none → dx ≠ x → JX T [V.ref x] (upd (upd H dx (.own x)) x (.ins T.AS dx [])) (fun v H2 => v = V.non ∧ Q x H2) E := fun x dx nx nd hd => by
 refine ⟨x, dx, rfl, AQ, fun H' S P nS nP kp hb => ⟨rfl, k x S P H' nx ?_ ?_ (fun a u e => kp a u (An e nx) ?_) hb⟩⟩
 ·have h1 : S ≠ x := fun z => by rw [z, AQ] at nS; cases nS
  have h2 : S ≠ dx := fun z => by rw [AN h1, z, AQ] at nS; cases nS
  rwa [AN h1, AN h2] at nS
 ·have h1 : P ≠ x := fun z => by rw [z, AQ] at nP; cases nP
  have h2 : P ≠ dx := fun z => by rw [AN h1, z, AQ] at nP; cases nP
  rwa [AN h1, AN h2] at nP
 ·rw [AN (An e nx), AN (An e nd)]
  exact e
theorem O9 (T : Tx K mg) : Ao P w K mg base CX0 1 T.GP T.JQ ["self"] (JX T) := by
 refine T.LH.F.ok PZ (fun vs H Q E h => ?_) (fun cdv A outer s H vs Q E hr h => ?_)
 ·obtain ⟨b, dx, rfl, hb, k⟩ := h
  rfl
 ·obtain ⟨b, dx, rfl, hb, k⟩ := h
  have hu := Ad hr
  refine ⟨_, (AD (OM (pv 0) (Ae AC) rfl)
   (AE (OM (pv 0) (Ae AC) rfl))), ?_⟩
  walk_at "RD"
  refine ⟨by decide, fun S H1 nS s1 eS => ⟨_, dx, _, s1.get hb, T.AV, T.Aj, by decide, by decide, fun P H2 nP s2 eP => ?_⟩⟩
  have sb : S ≠ b := An hb nS |>.symm
  refine ⟨_, dx, _, s2.get AQ, T.AV, T.BK, (by show 1 < 1000; decide), ?_⟩
  have nP1 : H1 P = none := by
   have hPb : P ≠ b := fun z => by rw [z, AQ] at nP; cases nP
   rw [AN hPb] at nP
   exact nP
  have eS2 : H2 S = some (.lst []) := s2.get ((AN sb).trans eS)
  have pb : P ≠ b := (An (s1.get hb) nP1).symm
  have ps : P ≠ S := (An eS nP1).symm
  refine k _ S P nS (s1.free nP1) (fun a u ha e => ?_) ?_
  ·rw [AN ha]
   exact s2.get ((AN ha).trans (s1.get e))
  ·refine ⟨⟨dx, AQ⟩, ⟨[], (AN sb).trans eS2, .nil⟩, ⟨[], (AN pb).trans eP, .nil, fun _ h => absurd h (by simp)⟩, ps.symm, by simp, by simp, ⟨List.Pairwise.nil, fun _ h => absurd h (by simp), by decide⟩, fun _ h => absurd h (by simp), by decide, fun a ha => ?_⟩
   simp at ha
   rcases ha with rfl | rfl
   ·exact ⟨_, (AN sb).trans eS2⟩
   ·exact ⟨_, (AN pb).trans eP⟩
theorem LJ : AO ["self", "place"] ["self", "place"] (AG C5) := by walk_at "SC"
noncomputable def LP {K : PySem.W.Frag} {mg : Str → Option Value} (T : Tx K mg) : Sp := fun vs H Q E => ∃ (b S P : Addr) (ow : List Addr) (gs : List G) (past : List (List G)) (p : Int), vs = [.ref b, .int p] ∧ Bch T.AS H b S P ow gs past ∧ ∀ H', AI H H' → Q (.bl (decide (p ∈ AU gs))) H'
theorem LB (T : Tx K mg) : Ao P w K mg base CX0 1 T.Ff T.ER ["self", "place"] (LP T) := by
 refine T.Ct.F.ok LJ (fun vs H Q E h => ?_) (fun cdv A outer s H vs Q E hr h => ?_)
 ·obtain ⟨b, S, P, ow, gs, past, p, rfl, hb, k⟩ := h
  rfl
 ·obtain ⟨b, S, P, ow, gs, past, p, rfl, hb, k⟩ := h
  have hu := Ad hr
  refine ⟨_, (AE (AH (UT VH (pv 1) (Ii rfl (⟨rfl, by decide +kernel, by decide +kernel, by decide +kernel, rfl, by decide +kernel, by with_unfolding_all rfl, by rfl, by rfl, by rfl⟩ : BI _ _ "gate" [] []) (BL (Bw (pv 0) rfl)) (fun _ _ _ _  => (pxi (EK (K := K) rfl) (pv 0) AB)) (fun _ _ _ _ => Ik)) (by with_unfolding_all rfl)))), ?_⟩
  obtain ⟨dx, eb⟩ := hb.at_
  obtain ⟨as, es, ga⟩ := hb.st
  delta Ec
  refine ⟨_, dx, _, eb, T.AV, T.Aj, _, rfl, ?_⟩
  refine ⟨_, rfl, ⟨_, SqL.of es⟩, fun D nD => ?_⟩
  refine NV (fun _ => true) (fun g => V.int g.p) (SqL.of es) ga nD (by have := hb.std.len; lia) (fun v g H R hg s1 ev hR => ?_) (fun v g H R hg s1 ev hR => ?_) fun H1 s1 e1 => ?_
  ·exact hR
  ·delta Option.join_some
   exact ⟨_, SqT.of ev, _, rfl, hR⟩
  ·rw [Wk, show (gs.map fun g => V.int g.p) = (AU gs).map V.int from by rw [List.map_map]; rfl] at e1
   refine ⟨_, .inl (SqL.of e1), rfl, SJ _, ?_⟩
   rw [Q0]
   exact k _ s1
theorem FO : AO ["self", "place", "gate"] ["self", "place"] (AG DX) := by walk_at "SC"
noncomputable def Mm {K : PySem.W.Frag} {mg : Str → Option Value} (T : Tx K mg) : Sp := fun vs H Q E => ∃ (b S P : Addr) (ow : List Addr) (gs : List G) (past : List (List G)) (p : Int), vs = [.ref b, .int p] ∧ Bch T.AS H b S P ow gs past ∧ (p ∉ AU gs → E (T.err .nogate) none H) ∧ ∀ D g, A0 gs p = some g → H D = some (.tup (G.vs g)) → Q (.ref D) H
theorem Cw (T : Tx K mg) : Ao P w K mg base (CXE P w) 1 T.Gf T.Fe ["self", "place"] (Mm T) := by
 refine T.BG.F.okX FO (fun vs H Q E h => ?_) (fun cdv A outer s H vs Q E hr h => ?_)
 ·obtain ⟨b, S, P, ow, gs, past, p, rfl, hb, kE, k⟩ := h
  rfl
 ·obtain ⟨b, S, P, ow, gs, past, p, rfl, hb, kE, k⟩ := h
  have hu := Ad hr
  refine ⟨_, (AD (BA am rfl (BL (Bw (pv 0) rfl)) (pgn 2 FO)
    (AE (AY (ptc Ay (pxi AK (pv 2) AB) (pv 1)) (AE (AH (pv 2)))
      AL)))
   (AE (BQ D7 rfl T.WF (by rfl) T.RS (AA AX AC)))), ?_⟩
  obtain ⟨dx, eb⟩ := hb.at_
  obtain ⟨as, es, ga⟩ := hb.st
  have las := ga.len
  delta Ec
  refine ⟨_, rfl, b, T.AS, dx, _, _, rfl, eb, T.AV, T.Aj, rfl, S, rfl, ⟨_, SqL.of es⟩, Ci (xs := as.map V.ref) (fun i σ H' => ∃ o, σ = [some (.ref b), some (.int p), o] ∧ H' = H ∧ ∀ g ∈ gs.take i, g.p ≠ p) ⟨none, rfl, rfl, fun _ z => absurd z (by simp)⟩ (fun _ _ _ _ ⟨_, _, e, _⟩ => SqL.of (e ▸ es)) ?_ ?_⟩
  ·rintro i v σ H1 hx ⟨o, rfl, rfl, hn⟩
   have hi : i < gs.length := by
    have := (List.getElem?_eq_some_iff.mp hx).1
    rw [List.length_map] at this
    lia
   obtain ⟨a, ha, ea⟩ := ga.get (List.getElem?_eq_getElem hi)
   have ex : v = V.ref a := by
    rw [List.getElem?_map, ha] at hx
    exact (Option.some.inj hx).symm
   subst ex
   have hm := List.getElem_mem hi
   have htk : gs.take (i + 1) = gs.take i ++ [gs[i]] := List.take_succ_eq_append_getElem hi
   generalize gs[i] = g at *
   walk_at "RD"
   refine ⟨_, SqT.of ea, _, rfl, rfl, ?_⟩
   by_cases hp : g.p = p
   ·rw [if_pos (decide_eq_true (by rw [hp]))]
    exact k a g (hp ▸ Mt hb.std.asc hm) ea
   ·rw [if_neg (fun z => hp (V.int.inj (of_decide_eq_true z)))]
    refine ⟨⟨_, rfl⟩, fun y hy => ?_⟩
    rw [htk] at hy
    rcases List.mem_append.mp hy with z | z
    ·exact hn y z
    ·rw [List.mem_singleton.mp z]
     exact hp
  ·rintro σ H1 ⟨o, rfl, rfl, hn⟩
   walk_at "RD"
   refine ⟨by decide, kE fun z => ?_⟩
   obtain ⟨g, hg, e⟩ := List.mem_map.mp z
   exact hn g (by rw [List.length_map, las, List.take_length]; exact hg) e
theorem FH : AO ["self", "place", "instead", "others"] ["self", "place", "instead"] (AG DV) := by walk_at "SC"
noncomputable def MC {K : PySem.W.Frag} {mg : Str → Option Value} (T : Tx K mg) : Sp := fun vs H Q E => ∃ (b S P : Addr) (ow : List Addr) (gs : List G) (past : List (List G)) (p : Int) (l : Addr) (ls : List Addr) (o : List G), vs = [.ref b, .int p, .ref l] ∧ Bch T.AS H b S P ow gs past ∧ l ∉ ow ∧ H l = some (.lst (ls.map V.ref)) ∧ At H ls o ∧ (∀ g ∈ o, g.p = p) ∧ Std (DH gs p o) ∧ (300 ≤ past.length → E (T.err .deeds) none H) ∧ (past.length < 300 → ∀ H' S' ow' (D : Addr), Kp b P H H' → Bch T.AS H' b S' P ow' (DH gs p o) (past ++ [gs]) → (∀ a ∈ ow', a ∈ ow ∨ H a = none) → Q .non H')
theorem Cs (T : Tx K mg) : Ao P w K mg base (CXE P w) 1 T.GX T.FR ["self", "place", "instead"] (MC T) := by
 refine T.BE.F.okX FH (fun vs H Q E h => ?_) (fun cdv A outer s H vs Q E hr h => ?_)
 ·obtain ⟨b, S, P, ow, gs, past, p, l, ls, o, rfl, hb, hlo, el, go, hop, std, kE, k⟩ := h
  rfl
 ·obtain ⟨b, S, P, ow, gs, past, p, l, ls, o, rfl, hb, hlo, el, go, hop, std, kE, k⟩ := h
  have hu := Ad hr
  refine ⟨_, (AD (AY (ptc UY (AJ AT (by rfl) T.Az Ap (AA (Bw (pv 0) rfl) AC)) (EX (v := .int (300)) (by rfl) T.Qu T.Qq)) (AE (BQ D7 rfl T.SK (by rfl) T.M0 (AA AX AC)))
    AL)
   (AD (Fy (i := 3) rfl FH.nd rfl (Or.inl rfl) (⟨rfl, by decide +kernel, by decide +kernel, by decide +kernel, rfl, by decide +kernel, by with_unfolding_all rfl, by rfl, by rfl, by rfl⟩ : BI _ _ "gate" ["place"] [1]) (BL (Bw (pv 0) rfl)) (fun _ _ _ _  => (pv 0)) (fun _ _ _ _ => (NX (ptc Dq (pxi (EK (K := K) rfl) (pv 0) AB) (pv 1)))))
   (AD (BC (CW (Bw (pv 0) rfl) (Bw (pv 0) rfl)))
   (AE (OM (pv 0) (AJ Bn (by rfl) T.Bh BN (AA (AF Lw (pv 3) (pv 2)) AC)) rfl))))), ?_⟩
  obtain ⟨dx, eb⟩ := hb.at_
  obtain ⟨as, es, ga⟩ := hb.st
  obtain ⟨ps, ep, pr, hps⟩ := hb.pa
  have lp := Paired.length pr
  walk_at "Q"
  walk_at "RD"
  refine ⟨_, dx, _, eb, T.AV, T.BK, _, rfl, ?_⟩
  refine ⟨_, rfl, _, .inl (SqL.of ep), ?_⟩
  rw [List.length_map, lp]
  by_cases h3 : 300 ≤ past.length
  ·rw [if_pos (decide_eq_true (by lia))]
   exact ⟨by decide, kE h3⟩
  ·rw [if_neg (fun z => h3 (by have := of_decide_eq_true z; lia))]
   walk_at "NX"
   walk_at "Q"
   delta Ec
   refine ⟨_, dx, _, eb, T.AV, T.Aj, _, rfl, _, rfl, ⟨_, SqL.of es⟩, fun D nD => ?_⟩
   refine Rf (fun g => !decide (g.p = p)) (SqL.of es) ga nD (by have := hb.std.len; lia) (fun v g H1 R hg s1 ev hR => ?_) fun H1 as1 s1 e1 ga1 => ?_
   ·delta Option.join_some
    refine ⟨_, SqT.of ev, _, rfl, rfl, ?_⟩
    rw [show decide (V.int g.p = V.int p) = decide (g.p = p) from decide_eq_decide.mpr ⟨fun z => V.int.inj z, fun z => by rw [z]⟩]
    exact hR
   ·have eb1 := s1.get eb
    have ep1 := s1.get ep
    walk_at "NX"
    walk_at "Q"
    walk_at "RD"
    refine ⟨_, dx, _, eb1, T.AV, T.BK, _, rfl, _, rfl, ⟨_, ep1⟩, _, dx, _, eb1, T.AV, T.Aj, _, rfl, _, ep1, by rw [List.length_map, lp, PySem.sizeLine_eq]; lia, ?_⟩
    walk_at "NX"
    walk_at "RD"
    have bP : b ≠ P := Be eb ep (by simp)
    have lP : l ≠ P := fun z => hlo (by rw [z]; exact hb.po)
    have DP : D ≠ P := (An ep nD).symm
    have el1 : upd H1 P (.lst (ps.map V.ref ++ [V.ref S])) l = some (.lst (ls.map V.ref)) := (AN lP).trans (s1.get el)
    have e1' : upd H1 P (.lst (ps.map V.ref ++ [V.ref S])) D = some (.lst (as1.map V.ref)) := (AN DP).trans e1
    have lo := At.len go
    have l1 := At.len ga1
    have lf := List.length_filter_le (fun g : G => !decide (g.p = p)) gs
    have l40 := hb.std.len
    have lpo := Nq (gs := gs) (p := p) (o := o)
    have l40' := std.len
    refine ⟨_, e1', _, el1, by rw [List.length_map, List.length_map, PySem.sizeLine_eq]; lia, fun M H2 n2 s2 e2 => ?_⟩
    have kt : ∀ a xs, H a = some (.tup xs) → H2 a = some (.tup xs) := fun a xs e => s2.get ((AN (hb.nep e fun _ z => by cases z)).trans (s1.get e))
    have kt1 : ∀ a xs, H1 a = some (.tup xs) → H2 a = some (.tup xs) := fun a xs e => s2.get ((AN (Be e ep1 (fun z => by cases z))).trans e)
    have ga2 : At H2 (as1 ++ ls) ((gs.filter fun g => !decide (g.p = p)) ++ o) := At.append (ga1.keep kt1) (go.keep kt)
    refine ⟨as1 ++ ls, by rw [List.map_append]; exact SqL.of e2, _, ga2, ?_, by rw [List.length_append]; lia, fun S' H3 as3 gs3 n3 s3 e3 ga3 pm ac => ?_⟩
    ·exact ((FE (gs := gs) (p := p) (o := o)).map G.p).nodup_iff.mp std.nd
    have eg : gs3 = DH gs p o := DE ac std.asc (pm.trans FE.symm)
    subst eg
    have eP3 : H3 P = some (.lst ((ps ++ [S]).map V.ref)) := by rw [List.map_append]; exact s3.get (s2.get AQ)
    have eb3 : H3 b = some (.ins T.AS dx [("standing", .ref S), ("past", .ref P)]) := s3.get (s2.get ((AN bP).trans eb1))
    have kp3 : Kp b P H H3 := fun a u h1 h2 e => s3.get (s2.get ((AN h2).trans (s1.get e)))
    have fr : ∀ a, H3 a = none → H a = none := fun a e => by
     cases q : H a with
     | none => rfl
     | some u =>
      by_cases hb' : a = b
      ·rw [hb', eb3] at e; cases e
      ·by_cases hP : a = P
       ·rw [hP, eP3] at e; cases e
       ·rw [kp3 a u hb' hP q] at e; cases e
    have n3H : H S' = none := by
     cases q : H S' with
     | none => rfl
     | some u =>
      by_cases hb' : S' = b
      ·rw [hb', s2.get ((AN bP).trans eb1)] at n3; cases n3
      ·by_cases hP : S' = P
       ·rw [hP, s2.get AQ] at n3; cases n3
       ·rw [s2.get ((AN hP).trans (s1.get q))] at n3; cases n3
    have Sb : S' ≠ b := (An eb n3H).symm
    have SP' : S' ≠ P := (An ep n3H).symm
    have kt3 : ∀ a xs, H a = some (.tup xs) → H3 a = some (.tup xs) := fun a xs e => s3.get (kt a xs e)
    have kb : ∀ a xs, H3 a = some (.tup xs) → upd H3 b (.ins T.AS dx [("standing", .ref S'), ("past", .ref P)]) a = some (.tup xs) := fun a xs e => (AN (Be e eb3 (fun z => by cases z))).trans e
    refine ⟨_, dx, _, eb3, T.AV, T.Aj, by show 2 < 1000; decide, k (by lia) _ S' (S' :: S :: ow) S' (kp3.upd (.inl rfl)) ?_ fun a ha => ?_⟩
    ·refine ⟨⟨dx, AQ⟩, ⟨as3, (AN Sb).trans e3, ga3.keep kb⟩, ⟨ps ++ [S], (AN bP.symm).trans eP3, Paired.snoc (Paired.keepM pr fun x y hx q => ?_) ?_, fun a ha => ?_⟩, SP', by simp, by simp [hb.po], std, fun x hx => ?_, by rw [List.length_append]; simp only [List.length_singleton]; lia, fun a ha => ?_⟩
     ·have hxo := hps x hx
      obtain ⟨_, ex⟩ := hb.lv x hxo.1
      have hxb : x ≠ b := hb.neb ex fun _ _ _ z => by cases z
      exact q.keep (fun u e => (AN hxb).trans (kp3 x u hxb hxo.2 e)) fun a xs e => kb a xs (kt3 a xs e)
     ·have hSb : S ≠ b := hb.neb es fun _ _ _ z => by cases z
      exact hb.st.keep (fun u e => (AN hSb).trans (kp3 S u hSb hb.sp e)) fun a xs e => kb a xs (kt3 a xs e)
     ·rcases List.mem_append.mp ha with z | z
      ·exact ⟨by simp [(hps a z).1], (hps a z).2⟩
      ·rw [List.mem_singleton.mp z]; exact ⟨by simp, hb.sp⟩
     ·rcases List.mem_append.mp hx with z | z
      ·exact hb.stds x z
      ·rw [List.mem_singleton.mp z]; exact hb.std
     ·have hown : ∀ a ∈ ow, ∃ xs, upd H3 b (.ins T.AS dx [("standing", .ref S'), ("past", .ref P)]) a = some (.lst xs) := fun a ha => by
       obtain ⟨xs, ex⟩ := hb.lv a ha
       have hxb : a ≠ b := hb.neb ex fun _ _ _ z => by cases z
       by_cases hP : a = P
       ·rw [hP]; exact ⟨_, (AN bP.symm).trans eP3⟩
       ·exact ⟨xs, (AN hxb).trans (kp3 a _ hxb hP ex)⟩
      rcases List.mem_cons.mp ha with z | z
      ·rw [z]; exact ⟨_, (AN Sb).trans e3⟩
      ·rcases List.mem_cons.mp z with z | z
       ·rw [z]; exact hown S hb.so
       ·exact hown a z
    ·rcases List.mem_cons.mp ha with z | z
     ·rw [z]; exact .inr n3H
     ·rcases List.mem_cons.mp z with z | z
      ·rw [z]; exact .inl hb.so
      ·exact .inl z
theorem Ll : AO ["self", "place", "foot", "head", "gate"] ["self", "place", "foot", "head"] (AG ID) := by walk_at "SC"
noncomputable def Qz {K : PySem.W.Frag} {mg : Str → Option Value} (T : Tx K mg) : Sp := fun vs H Q E => ∃ (b S P : Addr) (ow : List Addr) (gs : List G) (past : List (List G)) (p f h : Int), vs = [.ref b, .int p, .int f, .int h] ∧ Bch T.AS H b S P ow gs past ∧ (∀ e, Kc gs past p f h = some e → ∀ H', AI H H' → E (T.err e) none H') ∧ (Kc gs past p f h = none → ∀ H' S' ow' (D : Addr), Kp b P H H' → Bch T.AS H' b S' P ow' (DH gs p [⟨p, f, h⟩]) (past ++ [gs]) → (∀ a ∈ ow', a ∈ ow ∨ H a = none) → H' D = some (.tup [.int p, .int f, .int h]) → Q (.ref D) H')
theorem RJ (T : Tx K mg) : Ao P w K mg base (CXE P w) 2 T.Mw T.LX ["self", "place", "foot", "head"] (Qz T) := by
 refine T.HP.F.okX Ll (fun vs H Q E h => ?_) (fun cdv A outer s H vs Q E hr h => ?_)
 ·obtain ⟨b, S, P, ow, gs, past, p, f, h', rfl, hb, kE, k⟩ := h
  rfl
 ·obtain ⟨b, S, P, ow, gs, past, p, f, h', rfl, hb, kE, k⟩ := h
  have hu := Ad hr
  refine ⟨_, (AD (AY (Bd (BX (pv 0) T.AV T.Ct.mt (LB T) (hr.mono (by decide)) T.Ct.b .nil AW (AA (pv 1) AC))) (AE (BQ D7 rfl T.Xu (by rfl) T.T8 (AA AX AC)))
    AL)
   (AD (pst 4 Ll (Ai (AA (pv 1) (AA (pv 2) (AA (pv 3) AC)))))
   (AD (BC (pcl T.F4 (Jv T) hr Ea (AA (pv 4) AC)))
   (AD (AY (ptc UY (AJ AT (by rfl) T.Az Ap (AA (Bw (pv 0) rfl) AC)) (EX (v := .int (40)) (by rfl) T.Lb T.Lr)) (AE (BQ D7 rfl T.SV (by rfl) T.My (AA AX AC)))
    AL)
   (AD (BC (BX (pv 0) T.AV T.BE.mt (Cs T) (hr.mono (by decide)) T.BE.b .nil Ea (AA (pv 1) (AA (Ae (AA (pv 4) AC)) AC))))
   (AE (AH (pv 4)))))))), ?_⟩
  obtain ⟨dx, eb⟩ := hb.at_
  obtain ⟨as, es, ga⟩ := hb.st
  have las := ga.len
  walk_at "Q"
  walk_at "RD"
  refine ⟨_, _, eb, rfl, b, S, P, ow, gs, past, p, rfl, hb, fun H1 s1 => ?_⟩
  have hb1 := hb.same s1
  by_cases hp : p ∈ AU gs
  ·refine ⟨_, rfl, ?_⟩
   rw [if_pos (decide_eq_true hp)]
   exact ⟨by decide, kE .taken (by unfold Kc; rw [if_pos hp]) _ s1⟩
  refine ⟨_, rfl, ?_⟩
  rw [if_neg (fun z => hp (of_decide_eq_true z))]
  walk_at "NX"
  walk_at "Q"
  walk_at "RD"
  refine ⟨by decide, fun q H2 n2 s2 e2 => ?_⟩
  walk_at "NX"
  walk_at "Q"
  walk_at "RD"
  refine ⟨q, p, f, h', rfl, e2, fun e he => kE e (by unfold Kc; rw [if_neg hp, he]; rfl) _ (s1.trans s2), fun hok => ?_⟩
  have hb2 := hb1.same s2
  obtain ⟨dx, eb⟩ := hb2.at_
  obtain ⟨as, es, ga⟩ := hb2.st
  have las := ga.len
  walk_at "NX"
  walk_at "Q"
  walk_at "RD"
  refine ⟨_, dx, _, eb, T.AV, T.Aj, _, rfl, _, rfl, _, .inl (SqL.of es), ?_⟩
  rw [List.length_map, las]
  by_cases h4 : 40 ≤ gs.length
  ·rw [if_pos (decide_eq_true (by lia))]
   exact ⟨by decide, kE .full (by unfold Kc; rw [if_neg hp, hok, if_pos h4]; rfl) _ (s1.trans s2)⟩
  rw [if_neg (fun z => h4 (by have := of_decide_eq_true z; lia))]
  walk_at "NX"
  walk_at "RD"
  refine ⟨dx, _, eb, rfl, by decide, fun l H3 n3 s3 e3 => ?_⟩
  have hb3 := hb2.same s3
  have ok := Fz.mp hok
  refine ⟨b, S, P, ow, gs, past, p, l, [q], [⟨p, f, h'⟩], rfl, hb3, fun z => ?_, e3, .cons (s3.get e2) .nil, fun g hg => by rw [List.mem_singleton.mp hg], hb.std.put ok (by rw [SD hp]; lia), fun h3 => kE .deeds (by unfold Kc; rw [if_neg hp, hok, if_neg h4, if_pos h3]; rfl) _ (s1.trans (s2.trans s3)), fun h3 H4 S' ow' _ k4 b4 o4 => ?_⟩
  ·exact hb2.off n3 z
  ·refine k (by unfold Kc; rw [if_neg hp, hok, if_neg h4, if_neg (by lia)]; rfl) H4 S' ow' q ((Kp.of (s1.trans (s2.trans s3))).trans k4) b4 (fun a ha => ?_) (hb3.tup k4 (s3.get e2))
   exact (o4 a ha).imp id fun z => (s1.trans (s2.trans s3)).free z
theorem JN : AO ["self", "place", "gate"] ["self", "place"] (AG Ft) := by walk_at "SC"
noncomputable def PX {K : PySem.W.Frag} {mg : Str → Option Value} (T : Tx K mg) : Sp := fun vs H Q E => ∃ (b S P : Addr) (ow : List Addr) (gs : List G) (past : List (List G)) (p : Int), vs = [.ref b, .int p] ∧ Bch T.AS H b S P ow gs past ∧ (∀ e, Gk gs past p = some e → ∀ H', AI H H' → E (T.err e) none H') ∧ (∀ g, A0 gs p = some g → Gk gs past p = none → ∀ H' S' ow' (D : Addr), Kp b P H H' → Bch T.AS H' b S' P ow' (DH gs p []) (past ++ [gs]) → (∀ a ∈ ow', a ∈ ow ∨ H a = none) → H' D = some (.tup (G.vs g)) → Q (.ref D) H')
theorem PH (T : Tx K mg) : Ao P w K mg base (CXE P w) 2 T.Lj T.JE ["self", "place"] (PX T) := by
 refine T.GI.F.okX JN (fun vs H Q E h => ?_) (fun cdv A outer s H vs Q E hr h => ?_)
 ·obtain ⟨b, S, P, ow, gs, past, p, rfl, hb, kE, k⟩ := h
  rfl
 ·obtain ⟨b, S, P, ow, gs, past, p, rfl, hb, kE, k⟩ := h
  have hu := Ad hr
  refine ⟨_, (AD (pst 2 JN (BX (pv 0) T.AV T.BG.mt (Cw T) (hr.mono (by decide)) T.BG.b .nil Ea (AA (pv 1) AC)))
   (AD (BC (BX (pv 0) T.AV T.BE.mt (Cs T) (hr.mono (by decide)) T.BE.b .nil Ea (AA (pv 1) (AA (Ae AC) AC))))
   (AE (AH (pv 2))))), ?_⟩
  obtain ⟨dx, eb⟩ := hb.at_
  walk_at "RD"
  refine ⟨dx, _, eb, rfl, b, S, P, ow, gs, past, p, rfl, hb, fun hp => kE .nogate (by unfold Gk; rw [if_neg hp]) _ (AI.refl _), fun D g hg eD => ?_⟩
  obtain ⟨hgm, hgp⟩ := Bk hg
  have hp : p ∈ AU gs := List.mem_map.mpr ⟨g, hgm, hgp⟩
  refine ⟨dx, _, eb, rfl, by decide, fun l H1 n1 s1 e1 => ?_⟩
  have hb1 := hb.same s1
  refine ⟨b, S, P, ow, gs, past, p, l, [], [], rfl, hb1, hb.off n1, e1, .nil, fun g hg => absurd hg (by simp), hb.std.take, fun h3 => kE .deeds (by unfold Gk DO; rw [if_pos hp, if_pos h3]) _ s1, fun h3 H4 S' ow' _ k4 b4 o4 => ?_⟩
  exact k g hg (by unfold Gk DO; rw [if_pos hp, if_neg (by lia)]) H4 S' ow' D ((Kp.of s1).trans k4) b4 (fun a ha => (o4 a ha).imp id s1.free) (hb1.tup k4 (s1.get eD))
theorem Ev : AO ["self", "place", "foot_by", "head_by", "before", "gate"] ["self", "place", "foot_by", "head_by"] (AG F3) := by walk_at "SC"
noncomputable def O5 {K : PySem.W.Frag} {mg : Str → Option Value} (T : Tx K mg) : Sp := fun vs H Q E => ∃ (b S P : Addr) (ow : List Addr) (gs : List G) (past : List (List G)) (p x y : Int), vs = [.ref b, .int p, .int x, .int y] ∧ Bch T.AS H b S P ow gs past ∧ (∀ e, Db gs past p x y = some e → ∀ H', AI H H' → E (T.err e) none H') ∧ (∀ g, A0 gs p = some g → Db gs past p x y = none → ∀ H' S' ow' (D : Addr), Kp b P H H' → Bch T.AS H' b S' P ow' (DH gs p [⟨p, g.f + x, g.h + y⟩]) (past ++ [gs]) → (∀ a ∈ ow', a ∈ ow ∨ H a = none) → H' D = some (.tup [.int p, .int (g.f + x), .int (g.h + y)]) → Q (.ref D) H')
theorem Jt (T : Tx K mg) : Ao P w K mg base (CXE P w) 2 T.L4 T.JG ["self", "place", "foot_by", "head_by"] (O5 T) := by
 refine T.Cc.F.okX Ev (fun vs H Q E h => ?_) (fun cdv A outer s H vs Q E hr h => ?_)
 ·obtain ⟨b, S, P, ow, gs, past, p, x, y, rfl, hb, kE, k⟩ := h
  rfl
 ·obtain ⟨b, S, P, ow, gs, past, p, x, y, rfl, hb, kE, k⟩ := h
  have hu := Ad hr
  refine ⟨_, (AD (pst 4 Ev (BX (pv 0) T.AV T.BG.mt (Cw T) (hr.mono (by decide)) T.BG.b .nil Ea (AA (pv 1) AC)))
   (AD (pst 5 Ev (Ai (AA (pxi AK (pv 4) AB) (AA (AF Ak (pxi AK (pv 4) AB) (pv 2)) (AA (AF Ak (pxi AK (pv 4) AB) (pv 3)) AC)))))
   (AD (BC (pcl T.F4 (Jv T) hr Ea (AA (pv 5) AC)))
   (AD (BC (BX (pv 0) T.AV T.BE.mt (Cs T) (hr.mono (by decide)) T.BE.b .nil Ea (AA (pv 1) (AA (Ae (AA (pv 5) AC)) AC))))
   (AE (AH (pv 5))))))), ?_⟩
  obtain ⟨dx, eb⟩ := hb.at_
  walk_at "Q"
  walk_at "RD"
  refine ⟨dx, _, eb, rfl, b, S, P, ow, gs, past, p, rfl, hb, fun hp => kE .nogate (by unfold Db; rw [CT.mpr hp]) _ (AI.refl _), fun D g hg eD => ?_⟩
  obtain ⟨hgm, hgp⟩ := Bk hg
  have le : Db gs past p x y = (Df p (g.f + x) (g.h + y)).or (DO past) := by unfold Db; rw [hg]
  walk_at "NX"
  walk_at "Q"
  walk_at "RD"
  refine ⟨_, SqT.of eD, _, rfl, _, SqT.of eD, _, rfl, _, rfl, _, SqT.of eD, _, rfl, _, rfl, by decide, fun q H1 n1 s1 e1 => ?_⟩
  rw [hgp] at e1
  walk_at "NX"
  walk_at "Q"
  walk_at "RD"
  refine ⟨q, p, g.f + x, g.h + y, rfl, e1, fun e he => kE e (by rw [le, he]; rfl) _ s1, fun hok => ?_⟩
  have hb1 := hb.same s1
  obtain ⟨dx, eb⟩ := hb1.at_
  walk_at "NX"
  walk_at "RD"
  refine ⟨dx, _, eb, rfl, by decide, fun l H2 n2 s2 e2 => ?_⟩
  have hb2 := hb1.same s2
  refine ⟨b, S, P, ow, gs, past, p, l, [q], [⟨p, g.f + x, g.h + y⟩], rfl, hb2, hb1.off n2, e2, .cons (s2.get e1) .nil, fun g hg => by rw [List.mem_singleton.mp hg], hb.std.put (Fz.mp hok) (by rw [← hgp]; exact Nat.lt_of_lt_of_le (Yz hgm) hb.std.len), fun h3 => kE .deeds (by rw [le, hok]; unfold DO; rw [if_pos h3]; rfl) _ (s1.trans s2), fun h3 H4 S' ow' _ k4 b4 o4 => ?_⟩
  exact k g hg (by rw [le, hok]; unfold DO; rw [if_neg (by lia)]; rfl) H4 S' ow' q ((Kp.of (s1.trans s2)).trans k4) b4 (fun a ha => (o4 a ha).imp id (s1.trans s2).free) (hb2.tup k4 (s2.get e1))
theorem O8 : AO ["self", "place", "foot_by", "head_by"] ["self", "place", "foot_by", "head_by"] (AG GO) := by walk_at "SC"
noncomputable def PQ {K : PySem.W.Frag} {mg : Str → Option Value} (T : Tx K mg) : Sp := fun vs H Q E => ∃ (b S P : Addr) (ow : List Addr) (gs : List G) (past : List (List G)) (p x y : Int), vs = [.ref b, .int p, .int x, .int y] ∧ Bch T.AS H b S P ow gs past ∧ (∀ e, Db gs past p (-x) (-y) = some e → ∀ H', AI H H' → E (T.err e) none H') ∧ (∀ g, A0 gs p = some g → Db gs past p (-x) (-y) = none → ∀ H' S' ow' (D : Addr), Kp b P H H' → Bch T.AS H' b S' P ow' (DH gs p [⟨p, g.f + (-x), g.h + (-y)⟩]) (past ++ [gs]) → (∀ a ∈ ow', a ∈ ow ∨ H a = none) → H' D = some (.tup [.int p, .int (g.f + (-x)), .int (g.h + (-y))]) → Q (.ref D) H')
theorem Ph (T : Tx K mg) : Ao P w K mg base (CXE P w) 3 T.K1 T.Jb ["self", "place", "foot_by", "head_by"] (PQ T) := by
 refine T.GM.F.okX O8 (fun vs H Q E h => ?_) (fun cdv A outer s H vs Q E hr h => ?_)
 ·obtain ⟨b, S, P, ow, gs, past, p, x, y, rfl, hb, kE, k⟩ := h
  rfl
 ·obtain ⟨b, S, P, ow, gs, past, p, x, y, rfl, hb, kE, k⟩ := h
  have hu := Ad hr
  refine ⟨_, (AE (AH (BX (pv 0) T.AV T.Cc.mt (Jt T) (hr.mono (by decide)) T.Cc.b .nil Ea (AA (pv 1) (AA (Co Bv (pv 2)) (AA (Co Bv (pv 3)) AC)))))), ?_⟩
  obtain ⟨dx, eb⟩ := hb.at_
  walk_at "RD"
  exact ⟨dx, _, eb, rfl, b, S, P, ow, gs, past, p, -x, -y, rfl, hb, kE, k⟩
theorem Jj : AO ["self", "many", "left"] ["self", "many"] (AG F1) := by walk_at "SC"
noncomputable def JS {K : PySem.W.Frag} {mg : Str → Option Value} (T : Tx K mg) : Sp := fun vs H Q E => ∃ (b S P : Addr) (ow : List Addr) (gs : List G) (past : List (List G)) (n : Int), vs = [.ref b, .int n] ∧ Bch T.AS H b S P ow gs past ∧ (∀ e, Lu past n = some e → E (T.err e) none H) ∧ (Lu past n = none → ∀ H' S' P' ow', Kp b b H H' → Bch T.AS H' b S' P' ow' (past.getD (past.length - n.toNat) []) (past.take (past.length - n.toNat)) → (∀ a ∈ ow', a ∈ ow ∨ H a = none) → Q (.int ((past.take (past.length - n.toNat)).length : Int)) H')
theorem Jp (T : Tx K mg) : Ao P w K mg base (CXE P w) 1 T.Ld T.JC ["self", "many"] (JS T) := by
 refine T.CC.F.okX Jj (fun vs H Q E h => ?_) (fun cdv A outer s H vs Q E hr h => ?_)
 ·obtain ⟨b, S, P, ow, gs, past, n, rfl, hb, kE, k⟩ := h
  rfl
 ·obtain ⟨b, S, P, ow, gs, past, n, rfl, hb, kE, k⟩ := h
  have hu := Ad hr
  refine ⟨_, (AD (AY (ptc Da (pv 1) AB) (AE (BQ D7 rfl T.Ju (by rfl) T.Eu (AA AX AC)))
    AL)
   (AD (AY (ptc Cq (pv 1) (AJ AT (by rfl) T.Az Ap (AA (Bw (pv 0) rfl) AC))) (AE (BQ D7 rfl T.O1 (by rfl) T.Jr (AA AX AC)))
    AL)
   (AD (pst 2 Jj (AF Al (AJ AT (by rfl) T.Az Ap (AA (Bw (pv 0) rfl) AC)) (pv 1)))
   (AD (OM (pv 0) (pxi AM (Bw (pv 0) rfl) (pv 2)) rfl)
   (AD (OM (pv 0) (FY FV (Bw (pv 0) rfl) IZ (IT (pv 2))) rfl)
   (AE (AH (pv 2)))))))), ?_⟩
  obtain ⟨dx, eb⟩ := hb.at_
  obtain ⟨ps, ep, pr, hps⟩ := hb.pa
  have lp := Paired.length pr
  have lm : (ps.map V.ref).length = past.length := by rw [List.length_map, lp]
  unfold Lu at kE k
  walk_at "Q"
  walk_at "RD"
  by_cases h1 : n < 1
  ·rw [if_pos (decide_eq_true h1)]
   rw [if_pos h1] at kE
   exact ⟨by decide, kE _ rfl⟩
  rw [if_neg (fun z => h1 (of_decide_eq_true z))]
  rw [if_neg h1] at kE k
  walk_at "NX"
  walk_at "Q"
  walk_at "RD"
  refine ⟨_, dx, _, eb, T.AV, T.BK, _, rfl, _, rfl, _, .inl (SqL.of ep), ?_⟩
  rw [lm]
  by_cases h2 : (past.length : Int) < n
  ·rw [if_pos (decide_eq_true h2)]
   rw [if_pos h2] at kE
   exact ⟨by decide, kE _ rfl⟩
  rw [if_neg (fun z => h2 (of_decide_eq_true z))]
  rw [if_neg h2] at k
  walk_at "NX"
  walk_at "Q"
  walk_at "RD"
  refine ⟨_, dx, _, eb, T.AV, T.BK, _, rfl, _, rfl, _, .inl (SqL.of ep), ?_⟩
  rw [lm]
  walk_at "NX"
  walk_at "RD"
  obtain ⟨j, hj⟩ : ∃ j : Nat, (past.length : Int) - n = j := ⟨((past.length : Int) - n).toNat, by lia⟩
  have ej : past.length - n.toNat = j := by lia
  rw [ej] at k
  have hjl : j < past.length := by lia
  obtain ⟨S', hS', gS'⟩ := Paired.get pr (List.getElem?_eq_getElem hjl)
  have hSm : S' ∈ ps := List.mem_of_getElem? hS'
  have hSo := hps S' hSm
  obtain ⟨xs', eS'⟩ := hb.lv S' hSo.1
  have Sb : S' ≠ b := hb.neb eS' fun _ _ _ z => by cases z
  have bP : b ≠ P := Be eb ep (by simp)
  have hix : atI (ps.map V.ref) ((past.length : Int) - n) = some (V.ref S') := by rw [hj]; exact Cb hS'
  refine ⟨_, dx, _, eb, T.AV, T.BK, _, rfl, _, rfl, _, SqL.of ep, _, hix, _, dx, _, eb, T.AV, T.Aj, (by show 2 < 1000; decide), ?_⟩
  refine ⟨_, dx, _, AQ, T.AV, T.BK, _, rfl, _, rfl, _, SqL.of ((AN bP.symm).trans ep), ?_⟩
  intro P2 H2 n2 s2 e2
  have hcut : Pl (ps.map V.ref) none (some ((past.length : Int) - n)) = (ps.take j).map V.ref := by
   rw [hj]
   exact (F6).trans (List.map_take).symm
  rw [hcut] at e2
  have nP2 : H P2 = none := by
   have h1 : P2 ≠ b := fun z => by rw [z, AQ] at n2; cases n2
   rwa [AN h1] at n2
  have P2b : P2 ≠ b := (An eb nP2).symm
  have hv : (past.length : Int) - n = ((past.take j).length : Int) := by rw [List.length_take]; lia
  rw [hv]
  have kp2 : ∀ a u, a ≠ b → H a = some u → H2 a = some u := fun a u ha e => s2.get ((AN ha).trans e)
  have kp : Kp b b H (upd H2 b (.ins T.AS dx [("standing", .ref S'), ("past", .ref P2)])) := fun a u ha _ e => (AN ha).trans (kp2 a u ha e)
  have kt : ∀ a xs, H a = some (.tup xs) → upd H2 b (.ins T.AS dx [("standing", .ref S'), ("past", .ref P2)]) a = some (.tup xs) := fun a xs e => kp a _ (hb.neb e fun _ _ _ z => by cases z) (hb.neb e fun _ _ _ z => by cases z) e
  have kl : ∀ a ∈ ow, ∀ u, H a = some u → upd H2 b (.ins T.AS dx [("standing", .ref S'), ("past", .ref P2)]) a = some u := fun a ha u e => by
   obtain ⟨_, ea⟩ := hb.lv a ha
   have hab := hb.neb ea fun _ _ _ z => by cases z
   exact kp a u hab hab e
  refine ⟨_, dx, _, s2.get AQ, T.AV, T.BK, (by show 2 < 1000; decide), k rfl _ S' P2 (P2 :: ow) kp ?_ fun a ha => ?_⟩
  ·have eg : past.getD j [] = past[j] := by rw [List.getD_eq_getElem?_getD, List.getElem?_eq_getElem hjl]; rfl
   rw [eg]
   refine ⟨⟨dx, AQ⟩, gS'.keep (kl S' hSo.1) kt, ⟨ps.take j, (AN P2b).trans e2, ?_, fun a ha => ⟨List.mem_cons_of_mem _ (hps a (List.mem_of_mem_take ha)).1, fun z => (by rw [z] at ha; exact hb.off nP2 (hps P2 (List.mem_of_mem_take ha)).1)⟩⟩, fun z => (by rw [z, nP2] at eS'; cases eS'), List.mem_cons_of_mem _ hSo.1, List.mem_cons_self, hb.stds _ (List.getElem_mem hjl), fun x hx => hb.stds x (List.mem_of_mem_take hx), by rw [List.length_take]; have := hb.len; lia, fun a ha => ?_⟩
   ·exact Paired.keepM (Paired.takeP pr j) fun x y hx q => q.keep (kl x (hps x (List.mem_of_mem_take hx)).1) kt
   ·rcases List.mem_cons.mp ha with z | z
    ·rw [z]; exact ⟨_, (AN P2b).trans e2⟩
    ·obtain ⟨xs, ea⟩ := hb.lv a z
     exact ⟨xs, kl a z _ ea⟩
  ·rcases List.mem_cons.mp ha with z | z
   ·rw [z]; exact .inr nP2
   ·exact .inl z
theorem Ny : AO ["self"] ["self"] (AG E3) := by walk_at "SC"
noncomputable def N6 {K : PySem.W.Frag} {mg : Str → Option Value} (T : Tx K mg) : Sp := fun vs H Q E => ∃ (b S P : Addr) (ow : List Addr) (gs : List G) (past : List (List G)), vs = [.ref b] ∧ Bch T.AS H b S P ow gs past ∧ ∀ H' D as, H D = none → AI H H' → H' D = some (.lst (as.map V.ref)) → At H' as gs → Q (.ref D) H'
theorem V9 (T : Tx K mg) : Ao P w K mg base CX0 1 T.JP T.HH ["self"] (N6 T) := by
 refine T.Pg.F.ok Ny (fun vs H Q E h => ?_) (fun cdv A outer s H vs Q E hr h => ?_)
 ·obtain ⟨b, S, P, ow, gs, past, rfl, hb, k⟩ := h
  rfl
 ·obtain ⟨b, S, P, ow, gs, past, rfl, hb, k⟩ := h
  have hu := Ad hr
  refine ⟨_, (AE (AH (Bs Dk (by rfl) T.MS Ig (AA (Bw (pv 0) rfl) AC)))), ?_⟩
  obtain ⟨dx, eb⟩ := hb.at_
  obtain ⟨as, es, ga⟩ := hb.st
  walk_at "RD"
  refine ⟨_, dx, _, eb, T.AV, T.Aj, _, rfl, ?_⟩
  refine ⟨_, rfl, _, .inl (SqL.of es), fun l H' n s e => ?_⟩
  exact k H' l as n s e (ga.same s)
theorem Oh : AO ["self"] ["self"] (AG E4) := by walk_at "SC"
noncomputable def Nf {K : PySem.W.Frag} {mg : Str → Option Value} (T : Tx K mg) : Sp := fun vs H Q E => ∃ (b S P : Addr) (ow : List Addr) (gs : List G) (past : List (List G)), vs = [.ref b] ∧ Bch T.AS H b S P ow gs past ∧ Q (.int past.length) H
theorem V3 (T : Tx K mg) : Ao P w K mg base CX0 1 T.Jg T.IF ["self"] (Nf T) := by
 refine T.Oy.F.ok Oh (fun vs H Q E h => ?_) (fun cdv A outer s H vs Q E hr h => ?_)
 ·obtain ⟨b, S, P, ow, gs, past, rfl, hb, k⟩ := h
  rfl
 ·obtain ⟨b, S, P, ow, gs, past, rfl, hb, k⟩ := h
  have hu := Ad hr
  refine ⟨_, (AE (AH (AJ AT (by rfl) T.Az Ap (AA (Bw (pv 0) rfl) AC)))), ?_⟩
  obtain ⟨dx, eb⟩ := hb.at_
  obtain ⟨ps, ep, pr, _⟩ := hb.pa
  have lp := Paired.length pr
  walk_at "RD"
  refine ⟨_, dx, _, eb, T.AV, T.BK, _, rfl, ?_⟩
  refine ⟨_, rfl, _, .inl (SqL.of ep), ?_⟩
  rw [List.length_map, lp]
  exact k
theorem LW : AO ["self", "places"] ["self", "places"] (AG C8) := by walk_at "SC"
noncomputable def LS {K : PySem.W.Frag} {mg : Str → Option Value} (T : Tx K mg) : Sp := fun vs H Q E => ∃ (b S P : Addr) (ow : List Addr) (gs : List G) (past : List (List G)) (l : Addr) (ps : List Int), vs = [.ref b, .ref l] ∧ Bch T.AS H b S P ow gs past ∧ SqL K H l (ps.map V.int) ∧ ps.length < 4000 ∧ (Ed ps → ∀ H', AI H H' → E (T.err .badlist) none H') ∧ (¬ Ed ps → ∀ p ∈ ps, p ∈ AU gs) ∧ (¬ Ed ps → ∀ D H' as, H D = none → AI H H' → H' D = some (.lst (as.map V.ref)) → At H' as (CV gs ps) → Q (.ref D) H')
theorem EY (T : Tx K mg) : Ao P w K mg base (CXE P w) 2 T.FJ T.EV ["self", "places"] (LS T) := by
 refine T.Bf.F.okX LW (fun vs H Q E h => ?_) (fun cdv A outer s H vs Q E hr h => ?_)
 ·obtain ⟨b, S, P, ow, gs, past, l, ps, rfl, hb, hl, h4, kE, hst, k⟩ := h
  rfl
 ·obtain ⟨b, S, P, ow, gs, past, l, ps, rfl, hb, hl, h4, kE, hst, k⟩ := h
  have hu := Ad hr
  refine ⟨_, (AD (BC (pcl T.HN (NS T) hr Ea (AA (pv 1) AC)))
   (AE (AH (Ii rfl (⟨rfl, by decide +kernel, by decide +kernel, by decide +kernel, rfl, by decide +kernel, by with_unfolding_all rfl, by rfl, by rfl, by rfl⟩ : BI _ _ "place" ["self"] [0]) (BL (pv 1)) (fun _ _ _ _  => (BX (pv 1) T.AV T.BG.mt (Cw T) (hr.mono (by decide)) T.BG.b .nil J9 (AA (pv 0) AC))) (fun _ _ _ _ => Ik))))), ?_⟩
  delta Ec
  refine ⟨l, ps, rfl, hl, h4, kE, fun hg H1 s1 => ⟨⟨_, s1.seq hl⟩, fun D nD => ?_⟩⟩
  have hs := hst hg
  have hb1 := hb.same s1
  have ll : ps.length ≤ 40 := Nat.le_of_not_lt fun z => hg (.inr (.inl z))
  refine XS (gs := CV gs ps) (by rw [Bb hs]; exact s1.seq hl) nD (by rw [FP hs]; lia) (fun g H2 R hg s2 hR => ?_) fun H2 as s2 e2 ga => k ‹_› D H2 as (s1.free nD) (s1.trans s2) e2 ga
  have hb2 := hb1.same s2
  obtain ⟨dx, eb⟩ := hb2.at_
  delta Option.join_some
  refine ⟨dx, _, eb, rfl, b, S, P, ow, gs, past, g.p, rfl, hb2, fun hn => absurd (List.mem_map.mpr ⟨g, Dj hg, rfl⟩) hn, fun D' g' hg' eD' => ?_⟩
  rw [WV hb.std.asc hg] at hg'
  cases hg'
  exact hR D' eD'
theorem Cp : AO ["self", "places", "gates"] ["self", "places"] (AG B6) := by walk_at "SC"
noncomputable def G2 {K : PySem.W.Frag} {mg : Str → Option Value} (T : Tx K mg) : Sp := fun vs H Q E => ∃ (b S P : Addr) (ow : List Addr) (gs : List G) (past : List (List G)) (l : Addr) (ps : List Int), vs = [.ref b, .ref l] ∧ Bch T.AS H b S P ow gs past ∧ SqL K H l (ps.map V.int) ∧ ps.length < 4000 ∧ (Ed ps → ∀ H', AI H H' → E (T.err .badlist) none H') ∧ (¬ Ed ps → ∀ p ∈ ps, p ∈ AU gs) ∧ (¬ Ed ps → ps.length < 2 → ∀ H', AI H H' → E (T.err .few) none H') ∧ (¬ Ed ps → 2 ≤ ps.length → ∀ D H' as, H D = none → AI H H' → H' D = some (.lst (as.map V.ref)) → At H' as (CV gs ps) → Q (.ref D) H')
theorem Ck (T : Tx K mg) : Ao P w K mg base (CXE P w) 3 T.DI T.Cm ["self", "places"] (G2 T) := by
 refine T.BB.F.okX Cp (fun vs H Q E h => ?_) (fun cdv A outer s H vs Q E hr h => ?_)
 ·obtain ⟨b, S, P, ow, gs, past, l, ps, rfl, hb, hl, h4, kE, hst, kF, k⟩ := h
  rfl
 ·obtain ⟨b, S, P, ow, gs, past, l, ps, rfl, hb, hl, h4, kE, hst, kF, k⟩ := h
  have hu := Ad hr
  refine ⟨_, (AD (pst 2 Cp (BX (pv 0) T.AV T.Bf.mt (EY T) (hr.mono (by decide)) T.Bf.b .nil Ea (AA (pv 1) AC)))
   (AD (AY (ptc Da (AJ AT (by rfl) T.Az Ap (AA (pv 2) AC)) AB) (AE (BQ D7 rfl T.WP (by rfl) T.Vt (AA AX AC)))
    AL)
   (AE (AH (pv 2))))), ?_⟩
  obtain ⟨dx, eb⟩ := hb.at_
  walk_at "RD"
  refine ⟨dx, _, eb, rfl, b, S, P, ow, gs, past, l, ps, rfl, hb, hl, h4, kE, hst, fun hg D H1 as n1 s1 e1 ga => ?_⟩
  first | refine ⟨_, .inl (SqL.of e1), ?_⟩ | refine ⟨_, rfl, _, .inl (SqL.of e1), ?_⟩
  have la := ga.len
  have lp := FP (hst hg)
  rw [List.length_map]
  by_cases h2 : ps.length < 2
  ·rw [if_pos (decide_eq_true (by lia))]
   exact ⟨by decide, kF hg h2 _ s1⟩
  ·rw [if_neg (fun z => h2 (by have := of_decide_eq_true z; lia))]
   exact k hg (by lia) D H1 as n1 s1 e1 ga
theorem Mb : AO ["self", "places"] ["self", "places"] (AG DW) := by walk_at "SC"
noncomputable def MZ {K : PySem.W.Frag} {mg : Str → Option Value} (T : Tx K mg) : Sp := fun vs H Q E => ∃ (b S P : Addr) (ow : List Addr) (gs : List G) (past : List (List G)) (l : Addr) (ps : List Int), vs = [.ref b, .ref l] ∧ Bch T.AS H b S P ow gs past ∧ SqL K H l (ps.map V.int) ∧ ps.length < 4000 ∧ (Ed ps → ∀ H', AI H H' → E (T.err .badlist) none H') ∧ (¬ Ed ps → ∀ p ∈ ps, p ∈ AU gs) ∧ (¬ Ed ps → ∀ D H', AI H H' → MU H' D (CV gs ps) → Q (.ref D) H')
theorem MX (T : Tx K mg) : Ao P w K mg base (CXE P w) 9 T.Gh T.Fl ["self", "places"] (MZ T) := by
 refine T.DQ.F.okX Mb (fun vs H Q E h => ?_) (fun cdv A outer s H vs Q E hr h => ?_)
 ·obtain ⟨b, S, P, ow, gs, past, l, ps, rfl, hb, hl, h4, kE, hst, k⟩ := h
  rfl
 ·obtain ⟨b, S, P, ow, gs, past, l, ps, rfl, hb, hl, h4, kE, hst, k⟩ := h
  have hu := Ad hr
  refine ⟨_, (AE (AH (pcl T.Go (L5 T) hr AW (AA (BX (pv 0) T.AV T.Bf.mt (EY T) (hr.mono (by decide)) T.Bf.b .nil Ea (AA (pv 1) AC)) AC)))), ?_⟩
  obtain ⟨dx, eb⟩ := hb.at_
  walk_at "RD"
  refine ⟨dx, _, eb, rfl, b, S, P, ow, gs, past, l, ps, rfl, hb, hl, h4, kE, hst, fun hg D H1 as n1 s1 e1 ga => ?_⟩
  have hs := hst hg
  have lp := FP hs
  exact ⟨D, as, CV gs ps, rfl, SqL.of e1, ga, by show (AU _).Nodup; rw [Bb hs]; exact Classical.byContradiction fun z => hg (.inr (.inr z)), by rw [lp]; exact Nat.le_of_not_lt fun z => hg (.inr (.inl z)), fun z => hg (.inl (by rw [← Bb hs, z]; rfl)), fun g hg => hb.std.ok g (Dj hg), fun D2 H2 s2 th => k hg D2 H2 (s1.trans s2) th⟩
theorem Lq : AO ["self", "places"] ["self", "places"] (AG Cv) := by walk_at "SC"
noncomputable def Kz {K : PySem.W.Frag} {mg : Str → Option Value} (T : Tx K mg) : Sp := fun vs H Q E => ∃ (b S P : Addr) (ow : List Addr) (gs : List G) (past : List (List G)) (l : Addr) (ps : List Int), vs = [.ref b, .ref l] ∧ Bch T.AS H b S P ow gs past ∧ SqL K H l (ps.map V.int) ∧ ps.length < 4000 ∧ (Ed ps → ∀ H', AI H H' → E (T.err .badlist) none H') ∧ (¬ Ed ps → ∀ p ∈ ps, p ∈ AU gs) ∧ (¬ Ed ps → ps.length < 2 → ∀ H', AI H H' → E (T.err .few) none H') ∧ (¬ Ed ps → 2 ≤ ps.length → ∀ D H', AI H H' → OX true H' D (CV gs ps) → Q (.ref D) H')
theorem Lf (T : Tx K mg) : Ao P w K mg base (CXE P w) 8 T.Fj T.ET ["self", "places"] (Kz T) := by
 refine T.Cu.F.okX Lq (fun vs H Q E h => ?_) (fun cdv A outer s H vs Q E hr h => ?_)
 ·obtain ⟨b, S, P, ow, gs, past, l, ps, rfl, hb, hl, h4, kE, hst, kF, k⟩ := h
  rfl
 ·obtain ⟨b, S, P, ow, gs, past, l, ps, rfl, hb, hl, h4, kE, hst, kF, k⟩ := h
  have hu := Ad hr
  refine ⟨_, (AE (AH (pcl T.FI (K5 T) hr AW (AA (BX (pv 0) T.AV T.BB.mt (Ck T) (hr.mono (by decide)) T.BB.b .nil Ea (AA (pv 1) AC)) AC)))), ?_⟩
  obtain ⟨dx, eb⟩ := hb.at_
  walk_at "RD"
  refine ⟨dx, _, eb, rfl, b, S, P, ow, gs, past, l, ps, rfl, hb, hl, h4, kE, hst, kF, fun hg h2 D H1 as n1 s1 e1 ga => ?_⟩
  have hs := hst hg
  have lp := FP hs
  exact ⟨D, as, CV gs ps, rfl, SqL.of e1, ga, by show (AU _).Nodup; rw [Bb hs]; exact Classical.byContradiction fun z => hg (.inr (.inr z)), by lia, by rw [lp]; exact Nat.le_of_not_lt fun z => hg (.inr (.inl z)), fun g hg => hb.std.ok g (Dj hg), fun D2 H2 s2 th => k hg h2 D2 H2 (s1.trans s2) th⟩
theorem Kn : AO ["self", "places"] ["self", "places"] (AG Cy) := by walk_at "SC"
noncomputable def Lc {K : PySem.W.Frag} {mg : Str → Option Value} (T : Tx K mg) : Sp := fun vs H Q E => ∃ (b S P : Addr) (ow : List Addr) (gs : List G) (past : List (List G)) (l : Addr) (ps : List Int), vs = [.ref b, .ref l] ∧ Bch T.AS H b S P ow gs past ∧ SqL K H l (ps.map V.int) ∧ ps.length < 4000 ∧ (Ed ps → ∀ H', AI H H' → E (T.err .badlist) none H') ∧ (¬ Ed ps → ∀ p ∈ ps, p ∈ AU gs) ∧ (¬ Ed ps → ps.length < 2 → ∀ H', AI H H' → E (T.err .few) none H') ∧ (¬ Ed ps → 2 ≤ ps.length → ∀ D H', AI H H' → OX false H' D (CV gs ps) → Q (.ref D) H')
theorem Lm (T : Tx K mg) : Ao P w K mg base (CXE P w) 8 T.FZ T.ES ["self", "places"] (Lc T) := by
 refine T.C9.F.okX Kn (fun vs H Q E h => ?_) (fun cdv A outer s H vs Q E hr h => ?_)
 ·obtain ⟨b, S, P, ow, gs, past, l, ps, rfl, hb, hl, h4, kE, hst, kF, k⟩ := h
  rfl
 ·obtain ⟨b, S, P, ow, gs, past, l, ps, rfl, hb, hl, h4, kE, hst, kF, k⟩ := h
  have hu := Ad hr
  refine ⟨_, (AE (AH (pcl T.E8 (K3 T) hr AW (AA (BX (pv 0) T.AV T.BB.mt (Ck T) (hr.mono (by decide)) T.BB.b .nil Ea (AA (pv 1) AC)) AC)))), ?_⟩
  obtain ⟨dx, eb⟩ := hb.at_
  walk_at "RD"
  refine ⟨dx, _, eb, rfl, b, S, P, ow, gs, past, l, ps, rfl, hb, hl, h4, kE, hst, kF, fun hg h2 D H1 as n1 s1 e1 ga => ?_⟩
  have hs := hst hg
  have lp := FP hs
  exact ⟨D, as, CV gs ps, rfl, SqL.of e1, ga, by show (AU _).Nodup; rw [Bb hs]; exact Classical.byContradiction fun z => hg (.inr (.inr z)), by lia, by rw [lp]; exact Nat.le_of_not_lt fun z => hg (.inr (.inl z)), fun g hg => hb.std.ok g (Dj hg), fun D2 H2 s2 th => k hg h2 D2 H2 (s1.trans s2) th⟩
theorem PF : AO ["self"] ["self"] (AG Fv) := by walk_at "SC"
noncomputable def Pe {K : PySem.W.Frag} {mg : Str → Option Value} (T : Tx K mg) : Sp := fun vs H Q E => ∃ (b S P : Addr) (ow : List Addr) (gs : List G) (past : List (List G)), vs = [.ref b] ∧ Bch T.AS H b S P ow gs past ∧ ∀ D H' as' rs, H D = none → AI H H' → TF H' D as' rs gs → Q (.ref D) H'
theorem Po (T : Tx K mg) : Ao P w K mg base CX0 9 T.Ly T.Ji ["self"] (Pe T) := by
 refine T.F0.F.ok PF (fun vs H Q E h => ?_) (fun cdv A outer s H vs Q E hr h => ?_)
 ·obtain ⟨b, S, P, ow, gs, past, rfl, hb, k⟩ := h
  rfl
 ·obtain ⟨b, S, P, ow, gs, past, rfl, hb, k⟩ := h
  have hu := Ad hr
  refine ⟨_, (AE (AH (pcl T.JK (Nc T) hr AW (AA (Bw (pv 0) rfl) AC)))), ?_⟩
  obtain ⟨dx, eb⟩ := hb.at_
  obtain ⟨as, es, ga⟩ := hb.st
  walk_at "RD"
  refine ⟨_, dx, _, eb, T.AV, T.Aj, _, rfl, ?_⟩
  exact ⟨S, as, gs, rfl, SqL.of es, ga, hb.std.nd, hb.std.len, hb.std.ok, k⟩
theorem PK : AO ["self"] ["self"] (AG GF) := by walk_at "SC"
noncomputable def PN {K : PySem.W.Frag} {mg : Str → Option Value} (T : Tx K mg) : Sp := fun vs H Q E => ∃ (b S P : Addr) (ow : List Addr) (gs : List G) (past : List (List G)), vs = [.ref b] ∧ Bch T.AS H b S P ow gs past ∧ LM.Tbl H Fk MN U8 ∧ ((gs.length = 0 ∨ 12 < gs.length) → E (T.err .size) none H) ∧ (1 ≤ gs.length → gs.length ≤ 12 → ∀ D H' L q t sg, H L = none → Oe Fk H H' → LM.Tbl H' Fk MN U8 → NZ H' D gs L q t sg → Q (.ref D) H')
theorem PM (T : Tx K mg) : Ao P w K mg base (CXE P w) 10 T.Lh T.JZ ["self"] (PN T) := by
 refine T.Fw.F.okX PK (fun vs H Q E h => ?_) (fun cdv A outer s H vs Q E hr h => ?_)
 ·obtain ⟨b, S, P, ow, gs, past, rfl, hb, tb, kE, k⟩ := h
  rfl
 ·obtain ⟨b, S, P, ow, gs, past, rfl, hb, tb, kE, k⟩ := h
  have hu := Ad hr
  refine ⟨_, (AD (AY (EW (ptc Ay (AJ AT (by rfl) T.Az Ap (AA (Bw (pv 0) rfl) AC)) AB) (C1 (ptc Cq (AJ AT (by rfl) T.Az Ap (AA (Bw (pv 0) rfl) AC)) (EX (v := .int (12)) (by rfl) T.PB T.Pb)))).pt (AE (BQ D7 rfl T.Sk (by rfl) T.R1 (AA AX AC)))
    AL)
   (AE (AH (pcl T.Ko (Pn T) hr AW (AA (Bw (pv 0) rfl) AC))))), ?_⟩
  obtain ⟨dx, eb⟩ := hb.at_
  obtain ⟨as, es, ga⟩ := hb.st
  walk_at "RD"
  have la := ga.len
  refine ⟨_, dx, _, eb, T.AV, T.Aj, _, rfl, S, rfl, _, .inl (SqL.of es), ?_⟩
  rw [List.length_map, la]
  by_cases h0 : gs.length = 0
  ·rw [if_pos (decide_eq_true (by lia))]
   exact ⟨by decide, kE (.inl h0)⟩
  ·rw [if_neg (fun z => h0 (by have := of_decide_eq_true z; lia))]
   refine ⟨_, dx, _, eb, T.AV, T.Aj, _, rfl, S, rfl, _, .inl (SqL.of es), ?_⟩
   rw [List.length_map, la]
   by_cases h12 : 12 < gs.length
   ·rw [if_pos (decide_eq_true (by lia))]
    exact ⟨by decide, kE (.inr h12)⟩
   ·rw [if_neg (fun z => h12 (by have := of_decide_eq_true z; lia))]
    refine ⟨_, dx, _, eb, T.AV, T.Aj, _, rfl, ?_⟩
    exact ⟨S, as, gs, rfl, SqL.of es, ga, hb.std.nd, by lia, by lia, hb.std.ok, tb, k (by lia) (by lia)⟩
theorem NM : AO ["self", "throw"] ["self", "throw"] (AG D6) := by walk_at "SC"
noncomputable def NQ {K : PySem.W.Frag} {mg : Str → Option Value} (T : Tx K mg) : Sp := fun vs H Q E => ∃ (b S P : Addr) (ow : List Addr) (gs : List G) (past : List (List G)) (q : Addr) (x y z v : Int), vs = [.ref b, .ref q] ∧ Bch T.AS H b S P ow gs past ∧ H q = some (.tup [.int x, .int y, .int z, .int v]) ∧ (Sq x y z v → E (T.err .badthrow) none H) ∧ (¬ Sq x y z v → ∀ D H', H D = none → AI H H' → H' D = some (.lst ((AU (gs.filter (Tq x y z v))).map V.int)) → Q (.ref D) H')
theorem GY (T : Tx K mg) : Ao P w K mg base (CXE P w) 6 T.Hw T.GV ["self", "throw"] (NQ T) := by
 refine T.B4.F.okX NM (fun vs H Q E h => ?_) (fun cdv A outer s H vs Q E hr h => ?_)
 ·obtain ⟨b, S, P, ow, gs, past, q, x, y, z, v, rfl, hb, hq, kE, k⟩ := h
  rfl
 ·obtain ⟨b, S, P, ow, gs, past, q, x, y, z, v, rfl, hb, hq, kE, k⟩ := h
  have hu := Ad hr
  refine ⟨_, (AD (BC (pcl T.Jk (Nx T) hr Ea (AA (pv 1) AC)))
   (AE (AH (pcl T.DU (FD T) hr AW (AA (pv 1) (AA (Bw (pv 0) rfl) AC)))))), ?_⟩
  obtain ⟨dx, eb⟩ := hb.at_
  obtain ⟨as, es, ga⟩ := hb.st
  walk_at "RD"
  refine ⟨q, x, y, z, v, rfl, hq, kE, fun nb => ?_⟩
  refine ⟨_, dx, _, eb, T.AV, T.Aj, _, rfl, ?_⟩
  exact ⟨q, S, x, y, z, v, as, gs, rfl, hq, nb, SqL.of es, ga, hb.std.len, hb.std.ok, k nb⟩
theorem Xi : AO ["_law_script", "_law_k"] ["_law_script", "_law_k"] (AG Te) := by walk_at "SC"
noncomputable def Ij (K : PySem.W.Frag) : Sp := fun vs H Q _ => ∃ (a : Addr) (k : Int) (ns : List Int), vs = [.ref a, .int k] ∧ 0 ≤ k ∧ SqL K H a (ns.map V.int) ∧ Q (.int (ns.getD k.toNat 0)) H
theorem Kr (T : Tx K mg) : Ao P w K mg base CX0 1 T.V6 T.UN ["_law_script", "_law_k"] (Ij K) := by
 refine T.Mf.F.ok Xi (fun vs H Q E h => ?_) (fun cdv A outer s H vs Q E hr h => ?_)
 ·obtain ⟨a, k, ns, rfl, h0, hS, hq⟩ := h
  rfl
 ·obtain ⟨a, k, ns, rfl, h0, hS, hq⟩ := h
  have hu := Ad hr
  refine ⟨_, (AD (AY (ptc Da (pv 1) (AJ AT (by rfl) T.Az Ap (AA (pv 0) AC))) (AE (AH (pxi AM (pv 0) (pv 1))))
    AL)
   (AE (AH AB))), ?_⟩
  walk_at "RD"
  refine ⟨_, Or.inl hS, ?_⟩
  obtain ⟨k, rfl⟩ := Int.eq_ofNat_of_zero_le h0
  rw [List.length_map]
  by_cases hk : k < ns.length
  ·rw [if_pos (by simpa using hk)]
   refine ⟨_, hS, _, IV (v := V.int (ns.getD k 0)) ?_, hq⟩
   rw [List.getElem?_map, List.getElem?_eq_getElem hk, List.getD_eq_getElem?_getD, List.getElem?_eq_getElem hk]
   rfl
  ·rw [if_neg (by simpa using hk)]
   rw [Int.toNat_natCast, List.getD_eq_getElem?_getD, List.getElem?_eq_none (by lia)] at hq
   exact hq
theorem B3 : AO ["_law_cell", "_law_many", "_law_mixed", "_law_row", "_law_left", "_law_once", "_law_k"] ["_law_cell", "_law_many", "_law_mixed"] (AG KN) := by walk_at "SC"
noncomputable def DG : Sp := fun vs H Q _ => ∃ (c m : Int) (b : Bool), vs = [.int c, .int m, .bl b] ∧ 0 ≤ m ∧ m ≤ 100 ∧ ∀ D H' (xs : List Int), H D = none → AI H H' → H' D = some (.lst (xs.map V.int)) → xs.length = m.toNat → Q (.ref D) H'
noncomputable def W_spr (c m : Int) (b : Bool) (D : Addr) (H : Hp) : Nat → St → Hp → Prop := fun i σ H' => ∃ (xs : List Int) (lf on : Int) (k : Option V), σ = [some (.int c), some (.int m), some (.bl b), some (.ref D), some (.int lf), some (.int on), k] ∧ AI H H' ∧ H' D = some (.lst (xs.map V.int)) ∧ xs.length = i ∧ 0 ≤ on ∧ on < 2147483647
theorem CS (T : Tx K mg) : Ao P w K mg base CX0 1 T.OY T.Mu ["_law_cell", "_law_many", "_law_mixed"] DG := by
 refine T.CP.F.ok B3 (fun vs H Q E h => ?_) (fun cdv A outer s H vs Q E hr h => ?_)
 ·obtain ⟨c, m, b, rfl, h0, h1, k⟩ := h
  rfl
 ·obtain ⟨c, m, b, rfl, h0, h1, k⟩ := h
  have hu := Ad hr
  refine ⟨_, (AD (pst 3 B3 (Ae AC))
   (AD (pst 4 B3 (pv 0))
   (AD (pst 5 B3 (AF AZ (pv 0) AB))
   (AD (BA PassesOwn.never rfl (CG (by rfl) T.CM (AA (pv 1) AC)) (pgn 6 B3)
    (AD (pst 5 B3 (AF AZ (AF Ak (AF Ak (AF Hc (pv 5) AB) AB) (pv 6)) AB))
     (AE (AY (Bd (pv 2)) (AE (BC (CW (pv 3) (AF AZ (AF AZ (AF Ak (AF Hc (pv 5) AB) (pv 6)) AB) AB))))
      (AD (BC (CW (pv 3) (AF AZ (pv 4) AB)))
       (AE (pst 4 B3 (AF Bx (pv 4) AB))))))))
   (AE (AH (pv 3))))))), ?_⟩
  walk_at "RD"
  walk_at "AUTO"
  refine ⟨_, rfl, m, rfl, by lia, by lia, BV (n := m.toNat) (W_spr c m b p H) ⟨[], _, _, none, rfl, hs, he, rfl, by lia, by lia⟩ ?_ ?_⟩
  ·rintro i σ H1 hi ⟨xs, lf, on, k', rfl, s1, e1, hl, o1, o2⟩
   have hz : (xs.map V.int).length < sizeLine := by rw [List.length_map, PySem.sizeLine_eq]; lia
   walk_at "RD"
   walk_at "AUTO"
   cases b
   ·rw [if_neg (by decide)]
    refine ⟨⟨_, e1⟩, _, e1, hz, ?_⟩
    walk_at "AUTO"
    refine ⟨xs ++ [lf % 4004001], _, _, _, rfl, s1.updFresh hn, ?_, by rw [List.length_append, hl]; rfl, by lia, by lia⟩
    rw [AQ, List.map_append]; rfl
   ·rw [if_pos rfl]
    refine ⟨⟨_, e1⟩, _, e1, hz, ?_⟩
    walk_at "AUTO"
    refine ⟨xs ++ [((on * 48271 + 11 + (0 + (i : Int))) % 2147483647 * 69621 + (0 + (i : Int))) % 2147483647 % 4004001], _, _, _, rfl, s1.updFresh hn, ?_, by rw [List.length_append, hl]; rfl, by lia, by lia⟩
    rw [AQ, List.map_append]; rfl
  ·rintro σ H1 ⟨xs, lf, on, k', rfl, s1, e1, hl, o1, o2⟩
   walk_at "RD"
   exact k _ _ xs hn s1 e1 hl
theorem F5 : AO ["_law_kind", "_law_line", "_law_wide", "_law_low", "_law_high", "_law_under", "_law_over"] ["_law_kind", "_law_line", "_law_wide", "_law_low", "_law_high"] (AG Hm) := by walk_at "SC"
noncomputable def Kk : Sp := fun vs H Q _ => ∃ kd ln wd lo hi : Int, vs = [.int kd, .int ln, .int wd, .int lo, .int hi] ∧ 0 < wd ∧ wd < 10000 ∧ ∀ D H' f h, AI H H' → H' D = some (.tup [.int f, .int h]) → Q (.ref D) H'
theorem RF (T : Tx K mg) : Ao P w K mg base CX0 1 T.M7 T.Lp ["_law_kind", "_law_line", "_law_wide", "_law_low", "_law_high"] Kk := by
 refine T.NE.F.ok F5 (fun vs H Q E h => ?_) (fun cdv A outer s H vs Q E hr h => ?_)
 ·obtain ⟨kd, ln, wd, lo, hi, rfl, h0, h1, k⟩ := h
  rfl
 ·obtain ⟨kd, ln, wd, lo, hi, rfl, h0, h1, k⟩ := h
  have hu := Ad hr
  refine ⟨_, (AD (pst 5 F5 (AF Bx (pv 1) (pv 2)))
   (AD (pst 6 F5 (Co Bv (AF Bx (Co Bv (pv 1)) (pv 2))))
   (AD (AY (ptc Ay (pv 0) AB) (AE (AH (Ai (AA (AF Al (AF AZ (pv 3) AB) AB) (AA (AF Ak (AF Al (AF AZ (pv 3) AB) AB) (AF AZ (pv 4) AB)) AC)))))
    AL)
   (AD (AY (ptc Ay (pv 0) AB) (AE (AH (Ai (AA (AF Al (AF AZ (pv 3) AB) AB) (AA (AF Ak (AF Al (AF AZ (pv 3) AB) AB) (AF AZ (pv 4) AB)) AC)))))
    AL)
   (AD (AY (Dm (ptc Ay (pv 0) AB) (Ca (ptc Ay (AF AZ (pv 3) AB) AB))).pt (AE (AH (Ai (AA (pv 6) (AA (AF Ak (pv 6) (AF AZ (pv 4) AB)) AC)))))
    AL)
   (AD (AY (ptc Ay (pv 0) AB) (AE (AH (Ai (AA (AF Al (pv 5) (AF AZ (pv 4) AB)) (AA (pv 5) AC)))))
    AL)
   (AE (AH (Ai (AA (AF Al (pv 5) (AF AZ (pv 3) AB)) (AA (AF Ak (pv 6) (AF AZ (pv 4) AB)) AC))))))))))), ?_⟩
  walk_at "Q"
  walk_at "RD"
  walk_at "AUTO"
  walk_at "NX"
  walk_at "Q"
  walk_at "RD"
  walk_at "AUTO"
  walk_at "NX"
  walk_at "RD"
  walk_at "AUTO"
  repeat' (first | split | exact k _ _ _ _ (by assumption) (by assumption) | walk_at "STEP")
theorem Aq : AO ["_law_script", "_law_at_here", "_law_many", "_law_cell", "_law_kind", "_law_places", "_law_lows", "_law_highs", "_law_span", "_law_near", "_law_ends", "_law_made", "_law_used", "_law_k", "_law_place", "_law_step_here", "_law_line", "_law_foot", "_law_head"] ["_law_script", "_law_at_here", "_law_many"] (AG MT) := by walk_at "SC"
noncomputable def S6 (K : PySem.W.Frag) : Sp := fun vs H Q _ => ∃ (a : Addr) (at' many : Int) (ns : List Int), vs = [.ref a, .int at', .int many] ∧ SqL K H a (ns.map V.int) ∧ 0 ≤ at' ∧ at' ≤ 63 ∧ 0 ≤ many ∧ many ≤ 41 ∧ ∀ D H' as gs, H D = none → AI H H' → H' D = some (.lst (as.map V.ref)) → At H' as gs → gs.length = many.toNat → (∀ g ∈ gs, OkG g) → (gs.map G.p).Nodup → Q (.ref D) H'
noncomputable def Cf (fr : St) (H : Hp) : St → Hp → Prop := fun σ H' => ∃ f h : Int, σ = fr ++ [some (.int f), some (.int h)] ∧ H' = H
structure Gb (many span near e0 e1 : Int) : Prop where
 s0 : 2 ≤ span
 s1 : span ≤ 2001
 s2 : many ≤ span
 n0 : -1000 ≤ near
 n1 : near + span ≤ 1001
 b0 : e0.natAbs ≤ 1000
 b1 : e1.natAbs ≤ 10000
structure Gl (H' : Hp) (P L R E : Addr) (ps ls rs : List Int) (e0 e1 : Int) : Prop where
 eP : H' P = some (.lst (ps.map V.int))
 eL : H' L = some (.lst (ls.map V.int))
 eR : H' R = some (.lst (rs.map V.int))
 eE : H' E = some (.lst [.int e0, .int e1])
theorem Gl.same {H H' : Hp} {P L R E : Addr} {ps ls rs : List Int} {e0 e1 : Int} (g : Gl H P L R E ps ls rs e0 e1) (s : AI H H') : Gl H' P L R E ps ls rs e0 e1 := ⟨s.get g.eP, s.get g.eL, s.get g.eR, s.get g.eE⟩
noncomputable def Cg (a P L R : Addr) (at' many cl : Int) (ps ls rs : List Int) (H : Hp) : St → Hp → Prop := fun σ H' => ∃ (E : Addr) (span near e0 e1 : Int), σ = [some (.ref a), some (.int at'), some (.int many), some (.int cl), some (.int (cl / 2 % 5)), some (.ref P), some (.ref L), some (.ref R), some (.int span), some (.int near), some (.ref E), none, none, none, none, none, none, none, none] ∧ AI H H' ∧ Gl H' P L R E ps ls rs e0 e1 ∧ Gb many span near e0 e1
structure Gm (H' : Hp) (M U : Addr) (as : List Addr) (gs : List G) (kvs : List (Key × V)) (near span : Int) (i : Nat) : Prop where
 eM : H' M = some (.lst (as.map V.ref))
 at_ : At H' as gs
 eU : H' U = some (.dK kvs)
 len : gs.length = i
 kl : kvs.length ≤ i
 keys : ∀ z : Int, (CB kvs (Sum.inl z : Key)).isSome = true ↔ z ∈ gs.map G.p
 ok : ∀ g ∈ gs, OkG g
 nd : (gs.map G.p).Nodup
 stretch : ∀ g ∈ gs, near ≤ g.p ∧ g.p < near + span
noncomputable def Wg (a P L R E M U : Addr) (at' many cl span near : Int) (H : Hp) : Nat → St → Hp → Prop := fun i σ H' => ∃ (as : List Addr) (gs : List G) (kvs : List (Key × V)) (x1 x2 x3 x4 x5 x6 : Option V), σ = [some (.ref a), some (.int at'), some (.int many), some (.int cl), some (.int (cl / 2 % 5)), some (.ref P), some (.ref L), some (.ref R), some (.int span), some (.int near), some (.ref E), some (.ref M), some (.ref U), x1, x2, x3, x4, x5, x6] ∧ AI H H' ∧ Gm H' M U as gs kvs near span i
noncomputable def Wi (a P L R E M U : Addr) (at' many cl span near : Int) (gs : List G) (kk p0 : Int) (x4 x5 x6 : Option V) (H : Hp) : Nat → St → Hp → Prop := fun j σ H' => ∃ (pl : Int) (x3 : Option V), σ = [some (.ref a), some (.int at'), some (.int many), some (.int cl), some (.int (cl / 2 % 5)), some (.ref P), some (.ref L), some (.ref R), some (.int span), some (.int near), some (.ref E), some (.ref M), some (.ref U), some (.int kk), some (.int pl), x3, x4, x5, x6] ∧ H' = H ∧ near ≤ pl ∧ pl < near + span ∧
 (pl ∉ gs.map G.p ∨ (pl = near + (p0 - near + j) % span ∧ ∀ t : Nat, t < j → near + (p0 - near + t) % span ∈ gs.map G.p))
theorem Ta (T : Tx K mg) : Ao P w K mg base CX0 2 T.Ps T.Od ["_law_script", "_law_at_here", "_law_many"] (S6 K) := by
 refine T.QY.F.ok Aq (fun vs H Q E h => ?_) (fun cdv A outer s H vs Q E hr h => ?_)
 ·obtain ⟨a, at', many, ns, rfl, hS, a0, a1, m0, m1, k⟩ := h
  rfl
 ·obtain ⟨a, at', many, ns, rfl, hS, a0, a1, m0, m1, k⟩ := h
  have hu := Ad hr
  refine ⟨_, (AD (pst 3 Aq (pcl T.Mf (Kr T) hr AW (AA (pv 0) (AA (pv 1) AC))))
   (AD (pst 4 Aq (AF AZ (AF Bx (pv 3) AB) AB))
   (AD (pst 5 Aq (pcl T.CP (CS T) hr AW (AA (pcl T.Mf (Kr T) hr AW (AA (pv 0) (AA (AF Ak (pv 1) AB) AC))) (AA (AF Ak (pv 2) AB) (AA (pec Ay (AF AZ (pv 3) AB) AB) AC)))))
   (AD (pst 6 Aq (pcl T.CP (CS T) hr AW (AA (pcl T.Mf (Kr T) hr AW (AA (pv 0) (AA (AF Ak (pv 1) AB) AC))) (AA (AF Ak (pv 2) AB) (AA (pec Ay (AF AZ (pv 3) AB) AB) AC)))))
   (AD (pst 7 Aq (pcl T.CP (CS T) hr AW (AA (pcl T.Mf (Kr T) hr AW (AA (pv 0) (AA (AF Ak (pv 1) AB) AC))) (AA (AF Ak (pv 2) AB) (AA (pec Ay (AF AZ (pv 3) AB) AB) AC)))))
   (AD (pst 8 Aq (AJ (MQ (by rfl)) (by rfl) T.Rv RG (AA AB (AA (pxi AM (Ae (AA (AF Ak (pv 2) (AF AZ (pxi AM (pv 5) (pv 2)) AB)) (AA AB AC))) (AF AZ (AF Bx (pv 3) AB) AB)) AC))))
   (AD (pst 9 Aq (AF Al (AF AZ (pxi AM (pv 5) (AF Ak (pv 2) AB)) (AF Al AB (pv 8))) AB))
   (AD (pst 10 Aq (Ae (AA (AF Al (AF AZ (pxi AM (pv 6) (pv 2)) AB) AB) (AA (AF Al (AF AZ (pxi AM (pv 7) (pv 2)) AB) AB) AC))))
   (BY (AY (ptc Ay (pv 4) AB) (AE (II (AF Ak (pxi AM (pv 10) AB) (AF Hc (AF Al (AF AZ (pxi AM (pv 10) AB) AB) AB) (AF Al (pv 8) AB))) (Zn (pv 10) AB WG)))
    AL)
   (AD (pst 11 Aq (Ae AC))
   (AD (pst 12 Aq SF)
   (AD (BA PassesOwn.never rfl (CG (by rfl) T.CM (AA (pv 2) AC)) (pgn 13 Aq)
    (AD (pst 14 Aq (AF Ak (pv 9) (AF AZ (pxi AM (pv 5) (pv 13)) (pv 8))))
     (AD (BA PassesOwn.never rfl (CG (by rfl) T.CM (AA (pv 13) AC)) (pgn 15 Aq)
      (AE (AY (Su (Wo hu (pv 14) (pv 12))) (AE (pst 14 Aq (AF Ak (pv 9) (AF AZ (AF Ak (AF Al (pv 14) (pv 9)) AB) (pv 8)))))
        AL)))
     (AD (UM hu (pv 12) (pv 14) BD rfl)
     (AD (pst 16 Aq (AF Ak (AF Hc (pxi AM (pv 10) AB) (AF Al (pv 8) AB)) (AF Hc (AF Al (pxi AM (pv 10) AB) (pxi AM (pv 10) AB)) (AF Al (pv 14) (pv 9)))))
     (AD (II (pcl T.NE (RF T) hr AW (AA (pv 4) (AA (pv 16) (AA (AF Al (pv 8) AB) (AA (pxi AM (pv 6) (pv 13)) (AA (pxi AM (pv 7) (pv 13)) AC)))))) (Et (n := 2) rfl (Am (pgn 17 Aq) (Am (pgn 18 Aq) Ch))))
     (BY (AY (Dm (ptc Ay (pv 4) AB) (Ca (ptc Ay (pv 13) (AF AZ (pxi AM (pv 6) (AF Ak (pv 2) AB)) (pv 2))))).pt (AD (pst 17 Aq (AF Al (AF Ak (pv 17) (AF AZ (pxi AM (pv 7) (AF Ak (pv 2) AB)) AB)) AB))
       (AE (pst 18 Aq (AF Al (AF Ak (pv 18) (AF AZ (pxi AM (pv 7) (AF Ak (pv 2) AB)) AB)) AB))))
      AL)
     (AD (pst 17 Aq (AJ (MQ (by rfl)) (by rfl) T.Rv RG (AA (Co Bv AB) (AA (AJ (QK (by rfl)) (by rfl) T.Xx WO (AA AB (AA (pv 17) AC))) AC))))
     (AE (BC (CW (pv 11) (Ai (AA (pv 14) (AA (pv 17) (AA (AJ (MQ (by rfl)) (by rfl) T.Rv RG (AA (pv 17) (AA (AJ (QK (by rfl)) (by rfl) T.Xx WO (AA AB (AA (pv 18) AC))) AC))) AC)))))))))))))))
   (AE (AH (pv 11))))))))))))))), ?_⟩
  walk_at "Q"
  delta Ij
  walk_at "AUTO"
  walk_at "NX"
  walk_at "Q"
  walk_at "RD"
  walk_at "NX"
  walk_at "Q"
  delta Ij DG
  walk_at "AUTO"
  intro P H1 ps nP s1 eP lP
  walk_at "NX"
  walk_at "Q"
  delta Ij DG
  walk_at "AUTO"
  intro L H2 ls nL s2 eL lL
  walk_at "NX"
  walk_at "Q"
  delta Ij DG
  walk_at "AUTO"
  intro R H3 rs nR s3 eR lR
  walk_at "NX"
  walk_at "Q"
  walk_at "RD"
  walk_at "AUTO"
  obtain ⟨sp, hsp, hsp2⟩ := atL2 (x := many + ps.getD many.toNat 0 % 9) (y := 2001) (e := ns.getD at'.toNat 0 / 10 % 2) (by lia) (by lia)
  walk_at "AUTO"
  have hspB : 2 ≤ (if sp > 2 then sp else 2) ∧ (if sp > 2 then sp else 2) ≤ 2001 ∧ many ≤ (if sp > 2 then sp else 2) := by split <;> lia
  generalize (if sp > 2 then sp else 2) = span at hspB ⊢
  obtain ⟨hb1, hb2, hb3⟩ := hspB
  walk_at "NX"
  walk_at "Q"
  walk_at "RD"
  walk_at "AUTO"
  walk_at "NX"
  have hnear := Int.emod_nonneg (ps.getD (many + 1).toNat 0) (show (2002 - span) ≠ 0 by lia)
  have hnear2 := Int.emod_lt_of_pos (ps.getD (many + 1).toNat 0) (show 0 < 2002 - span by lia)
  generalize ps.getD (many + 1).toNat 0 % (2002 - span) = nr at hnear hnear2 ⊢
  walk_at "Q"
  walk_at "RD"
  walk_at "AUTO"
  walk_at "NX"
  have hp0 : H p = none := AI.free (by walk_at "SAME8") hn
  refine ⟨Cg a P L R at' many (ns.getD at'.toNat 0) ps ls rs H, ?_, ?_⟩
  ·walk_at "RD"
   split
   ·walk_at "AUTO"
    have hq := CQ (show ((rs.getD many.toNat 0 % 2001 - 1000) % 7 - 3).natAbs ≤ 3 by lia) (show (span - 1).natAbs ≤ 2000 by lia)
    refine ⟨p, span, _, _, _, rfl, AI.updFresh (by walk_at "SAME8") hp0, ⟨?_, ?_, ?_, AQ⟩, ⟨hb1, hb2, hb3, by lia, by lia, by lia, ?_⟩⟩
    ·rw [AN (An (o := .lst (ps.map V.int)) (by walk_at "SAT8") hn)]; walk_at "SAT8"
    ·rw [AN (An (o := .lst (ls.map V.int)) (by walk_at "SAT8") hn)]; walk_at "SAT8"
    ·rw [AN (An (o := .lst (rs.map V.int)) (by walk_at "SAT8") hn)]; walk_at "SAT8"
    ·lia
   ·exact ⟨p, span, _, _, _, rfl, (by walk_at "SAME8"), ⟨by walk_at "SAT8", by walk_at "SAT8", by walk_at "SAT8", by walk_at "SAT8"⟩, ⟨hb1, hb2, hb3, by lia, by lia, by lia, by lia⟩⟩
  clear hnear hnear2 hp0 hsp hsp2 he hs hn p H' nr hb1 hb2 hb3 span sp
  rintro σ1 H5 ⟨E, span, near, e0, e1, rfl, s5, gl, gb⟩
  obtain ⟨hb1, hb2, hb3, hb4, hb5, hb6, hb7⟩ := id gb
  walk_at "RD"
  refine ⟨by decide, fun M H6 nM s6 eM => ?_⟩
  intro U H7 nU s7 eU
  have nU5 : H5 U = none := s6.free nU
  have n0M : H M = none := s5.free nM
  refine ⟨_, rfl, many, rfl, by lia, by lia, BV (n := many.toNat) (Wg a P L R E M U at' many (ns.getD at'.toNat 0) span near H5) ⟨[], [], [], none, none, none, none, none, none, rfl, s6.trans s7, ⟨s7.get eM, .nil, eU, rfl, Nat.le_refl _, fun z => by simp [CB], fun _ h => absurd h (by simp), by simp, fun _ h => absurd h (by simp)⟩⟩ ?_ ?_⟩
  ·rintro i σ H8 hi ⟨as, gs, kvs, x1, x2, x3, x4, x5, x6, rfl, s8, gm⟩
   have gl8 := gl.same s8
   have eP8 := gl8.eP
   have eL8 := gl8.eL
   have eR8 := gl8.eR
   have eE8 := gl8.eE
   walk_at "RD"
   walk_at "AUTO"
   generalize hp0 : near + ps.getD (0 + (i : Int)).toNat 0 % span = p0
   have q1 := Int.emod_nonneg (ps.getD (0 + (i : Int)).toNat 0) (show span ≠ 0 by lia)
   have q2 := Int.emod_lt_of_pos (ps.getD (0 + (i : Int)).toNat 0) (show 0 < span by lia)
   have hl1 : near ≤ p0 := by lia
   have hl2 : p0 < near + span := by lia
   refine ⟨_, rfl, 0 + (i : Int), rfl, by lia, by lia, BV (n := (0 + (i : Int)).toNat) (Wi a P L R E M U at' many (ns.getD at'.toNat 0) span near gs (0 + (i : Int)) p0 x4 x5 x6 H8) ⟨p0, x3, rfl, rfl, hl1, hl2, .inr ⟨?_, fun t ht => absurd ht (by lia)⟩⟩ ?_ ?_⟩
   ·rw [show p0 - near + ((0 : Nat) : Int) = p0 - near by lia, Int.emod_eq_of_lt (by lia) (by lia)]; lia
   ·rintro j σ H9 hj ⟨pl, y3, rfl, rfl, l1, l2, hor⟩
    walk_at "RD"
    refine ⟨_, G1.k (k := Sum.inl pl) gm.eU, ?_⟩
    by_cases hu' : pl ∈ gs.map G.p
    ·rw [if_pos ((gm.keys pl).mpr hu')]
     walk_at "AUTO"
     have r1 := Int.emod_nonneg (pl - near + 1) (show span ≠ 0 by lia)
     have r2 := Int.emod_lt_of_pos (pl - near + 1) (show 0 < span by lia)
     refine ⟨_, _, rfl, rfl, by lia, by lia, .inr ?_⟩
     rcases hor with z | ⟨z1, z2⟩
     ·exact absurd hu' z
     ·refine ⟨?_, fun t ht => ?_⟩
      ·rw [z1, show near + (p0 - near + (j : Int)) % span - near + 1 = (p0 - near + (j : Int)) % span + 1 by lia, Int.emod_add_emod, show p0 - near + (j : Int) + 1 = p0 - near + ((j + 1 : Nat) : Int) by lia]
      ·rcases (by lia : t < j ∨ t = j) with e | e
       ·exact z2 t e
       ·subst e; rw [← z1]; exact hu'
    ·rw [if_neg (fun z => hu' ((gm.keys pl).mp z))]
     exact ⟨pl, _, rfl, rfl, l1, l2, .inl hu'⟩
   ·rintro σ H9 ⟨pl, y3, rfl, rfl, l1, l2, hor⟩
    have hfree : pl ∉ gs.map G.p := by
     rcases hor with z | ⟨z1, z2⟩
     ·exact z
     ·intro hin
      have hlen : (gs.map G.p).length = i := by rw [List.length_map]; exact gm.len
      refine Sl (near := near) (span := span) (o := p0 - near) (used := gs.map G.p) (by rw [hlen]; lia) fun t ht => ?_
      rw [hlen] at ht
      rcases (by lia : t < i ∨ t = i) with e | e
      ·exact z2 t (by lia)
      ·subst e
       rw [show (((0 + (t : Int)).toNat : Nat) : Int) = (t : Int) by lia] at z1
       rw [← z1]; exact hin
    dsimp only
    refine Km fun Md hM => ?_
    walk_at "RD"
    refine ⟨_, Se.k (k := Sum.inl pl) gm.eU (by rw [PySem.sizeLine_eq]; have := gm.kl; lia), ?_⟩
    refine hM _ _ ?_
    clear hM Md
    have hMU : M ≠ U := Be gm.eM gm.eU (by intro z; cases z)
    have s9 : AI H5 (upd H9 U (.dK (Cz kvs (Sum.inl pl) (V.bl true)))) := s8.updFresh nU5
    have eM9 : upd H9 U (.dK (Cz kvs (Sum.inl pl) (V.bl true))) M = some (.lst (as.map V.ref)) := by rw [AN hMU]; exact gm.eM
    have eU9 : upd H9 U (.dK (Cz kvs (Sum.inl pl) (V.bl true))) U = some (.dK (Cz kvs (Sum.inl pl) (V.bl true))) := AQ
    have at9 := gm.at_.upd (u := .dK (Cz kvs (Sum.inl pl) (V.bl true))) gm.eU (by intro ys z; cases z)
    generalize upd H9 U (.dK (Cz kvs (Sum.inl pl) (V.bl true))) = HA at s9 eM9 eU9 at9 ⊢
    have glA := gl.same s9
    have ePA := glA.eP
    have eLA := glA.eL
    have eRA := glA.eR
    have eEA := glA.eE
    clear eP8 eL8 eR8 eE8 gl8
    refine Km fun Md hM => ?_
    walk_at "RD"
    walk_at "AUTO"
    refine hM _ _ ?_
    clear hM Md
    refine Km fun Md hM => ?_
    delta Kk
    walk_at "AUTO"
    intro TT HB f h sB eB
    walk_at "AUTO"
    refine ⟨rfl, _, _, rfl, _, _, rfl, rfl, ?_⟩
    refine hM _ _ ?_
    clear hM Md
    refine ⟨Cf [some (V.ref a), some (V.int at'), some (V.int many), some (V.int (ns.getD at'.toNat 0)), some (V.int (ns.getD at'.toNat 0 / 2 % 5)), some (V.ref P), some (V.ref L), some (V.ref R), some (V.int span), some (V.int near), some (V.ref E), some (V.ref M), some (V.ref U), some (V.int (0 + (i : Int))), some (V.int pl), y3, some (V.int (e0 * (span - 1) + (e1 - e0) * (pl - near)))] HB, ?_, ?_⟩
    ·walk_at "RD"
     split
     ·walk_at "AUTO"
      split
      ·walk_at "AUTO"
       exact ⟨_, _, rfl, rfl⟩
      ·exact ⟨_, _, rfl, rfl⟩
     ·exact ⟨_, _, rfl, rfl⟩
    rintro σ HB' ⟨f1, h1, rfl, rfl⟩
    walk_at "RD"
    have eMB := sB.get eM9
    have hff : ∃ f2 : Int, (if (if f1 < 1000 then f1 else 1000) > -1000 then if f1 < 1000 then f1 else 1000 else -1000) = f2 ∧ -1000 ≤ f2 ∧ f2 ≤ 1000 := ⟨_, rfl, by (repeat' split) <;> lia, by (repeat' split) <;> lia⟩
    obtain ⟨f2, ef2, f3, f4⟩ := hff
    rw [ef2]
    have hhh : ∃ h2 : Int, (if (if h1 < 1000 then h1 else 1000) > f2 then if h1 < 1000 then h1 else 1000 else f2) = h2 ∧ f2 ≤ h2 ∧ h2 ≤ 1000 := ⟨_, rfl, by (repeat' split) <;> lia, by (repeat' split) <;> lia⟩
    obtain ⟨h2, eh2, h3, h4⟩ := hhh
    rw [eh2]
    refine ⟨⟨_, eMB⟩, by decide, fun TP HC nC sC eC => ?_⟩
    have eMC := sC.get eMB
    have eUC := sC.get (sB.get eU9)
    have atC := (at9.same sB).same sC
    have sAll := (s9.trans sB).trans sC
    have lk := gm.kl
    have lg := gm.len
    have la := at9.len
    refine ⟨_, eMC, by rw [List.length_map, PySem.sizeLine_eq]; lia, as ++ [TP], gs ++ [⟨pl, f2, h2⟩], Cz kvs (Sum.inl pl) (V.bl true), _, _, _, _, _, _, rfl, sAll.updFresh nM, ?_⟩
    have hkey : ∀ z : Int, (CB (Cz kvs (Sum.inl pl : Key) (V.bl true)) (Sum.inl z)).isSome = true ↔ z ∈ (gs ++ [⟨pl, f2, h2⟩] : List G).map G.p := fun z => by
     rw [OU, List.map_append, List.mem_append]
     by_cases e : z = pl
     ·subst e; simp
     ·rw [if_neg (fun q => e (Sum.inl.inj q)), gm.keys z]
      simp [e]
    refine ⟨by rw [AQ, List.map_append]; rfl, ?_, by rw [AN (Ne.symm hMU)]; exact eUC, by rw [List.length_append, lg]; rfl, Nat.le_trans (Hx ..) (by lia), hkey, fun g hg => ?_, ?_, fun g hg => ?_⟩
    ·exact (atC.snoc (a := TP) (g := ⟨pl, f2, h2⟩) eC).upd eMC (by intro ys z; cases z)
    ·rcases List.mem_append.mp hg with z | z
     ·exact gm.ok g z
     ·rw [List.mem_singleton.mp z]
      exact ⟨by show -1000 ≤ pl; lia, by show pl ≤ 1000; lia, f3, h3, h4⟩
    ·rw [List.map_append]
     exact UK gm.nd hfree
    ·rcases List.mem_append.mp hg with z | z
     ·exact gm.stretch g z
     ·rw [List.mem_singleton.mp z]
      exact ⟨l1, l2⟩
  ·rintro σ H8 ⟨as, gs, kvs, x1, x2, x3, x4, x5, x6, rfl, s8, gm⟩
   walk_at "RD"
   exact k M _ as gs n0M (s5.trans s8) gm.eM gm.at_ gm.len gm.ok gm.nd
theorem TD : AO ["_law_found"] ["_law_found"] (AG MJ) := by walk_at "SC"
noncomputable def C3 : Sp := fun vs H Q _ => ∃ i : Int, vs = [.int i] ∧ Q (.bl true) H
theorem Fp (T : Tx K mg) : Ao P w K mg base CX0 1 T.QL T.OJ ["_law_found"] C3 := by
 refine T.FU.F.ok TD (fun vs H Q E h => ?_) (fun cdv A outer s H vs Q E hr h => ?_)
 ·obtain ⟨i, rfl, hq⟩ := h
  rfl
 ·obtain ⟨i, rfl, hq⟩ := h
  have hu := Ad hr
  refine ⟨_, (AE (AH (RM (AJ CU (by rfl) T.CF Br (AA (pv 0) (AA (Ia (v := .ty "int") (by rfl) T.T4 Q9 rfl) AC))) (RD (YT (AJ CU (by rfl) T.CF Br (AA (pv 0) (AA (Ia (v := .ty "bool") (by rfl) T.bU XN rfl) AC)))))))), ?_⟩
  walk_at "RD"
  refine ⟨_, .int i, true, rfl, ?_⟩
  rw [if_pos rfl]
  exact ⟨_, .int i, false, rfl, hq⟩
theorem K9 : AO ["_law_found", "_law_due", "_law_k"] ["_law_found", "_law_due"] (AG He) := by walk_at "SC"
noncomputable def Qo (K : PySem.W.Frag) : Sp := fun vs H Q _ => ∃ (x y : Addr) (xs : List Int), vs = [.ref x, .ref y] ∧ H x = some (.tup (xs.map V.int)) ∧ SqT K H y (xs.map V.int) ∧ xs.length ≤ 1000 ∧ Q (.bl true) H
noncomputable def W_num (x y : Addr) (H : Hp) : Nat → St → Hp → Prop := fun i σ H' => ∃ k, σ = [some (.ref x), some (.ref y), k] ∧ H' = H
theorem Qp (T : Tx K mg) : Ao P w K mg base CX0 2 T.NG T.K7 ["_law_found", "_law_due"] (Qo K) := by
 refine T.Mz.F.ok K9 (fun vs H Q E h => ?_) (fun cdv A outer s H vs Q E hr h => ?_)
 ·obtain ⟨x, y, xs, rfl, ex, ey, hl, k⟩ := h
  rfl
 ·obtain ⟨x, y, xs, rfl, ex, ey, hl, k⟩ := h
  have hu := Ad hr
  refine ⟨_, (AD (AY (EW (B0 (Bd (AJ CU (by rfl) T.CF Br (AA (pv 0) (AA (Ia (v := .ty "tuple") (by rfl) T.RO N7 rfl) AC))))) (C1 (ptc Dq (AJ AT (by rfl) T.Az Ap (AA (pv 0) AC)) (AJ AT (by rfl) T.Az Ap (AA (pv 1) AC))))).pt (AE (AH BD))
    AL)
   (AD (BA PassesOwn.never rfl (CG (by rfl) T.CM (AA (AJ AT (by rfl) T.Az Ap (AA (pv 1) AC)) AC)) (pgn 2 K9)
    (AE (AY (EW (B0 (Bd (pcl T.FU (Fp T) hr AW (AA (pxi AK (pv 0) (pv 2)) AC)))) (C1 (ptc Dq (pxi AK (pv 0) (pv 2)) (pxi AK (pv 1) (pv 2))))).pt (AE (AH BD))
      AL)))
   (AE (AH BD)))), ?_⟩
  walk_at "RD"
  walk_at "AUTO"
  refine ⟨_, rfl, _, rfl, _, Or.inr ey, ((xs.map V.int).length : Int), rfl, by rw [List.length_map]; lia, by rw [List.length_map]; lia, BV (n := (((xs.map V.int).length : Nat) : Int).toNat) (W_num x y H) ⟨none, rfl, rfl⟩ ?_ ?_⟩
  ·rintro i σ H1 hi ⟨k', rfl, rfl⟩
   rw [List.length_map] at hi
   delta C3
   walk_at "AUTO"
   exact ⟨_, rfl, rfl⟩
  ·rintro σ H1 ⟨k', rfl, rfl⟩
   walk_at "RD"
   exact k
theorem CN : AO ["_law_stands", "_law_deed_here", "_law_word", "_law_place", "_law_one", "_law_two", "_law_foot", "_law_head"] ["_law_stands", "_law_deed_here"] (AG Me) := by walk_at "SC"
noncomputable def TM (K : PySem.W.Frag) : Sp := fun vs H Q _ => ∃ (d q : Addr) (w : Str) (p x y : Int) (gs : List G), vs = [.ref d, .ref q] ∧ SqT K H q [.str w, .int p, .int x, .int y] ∧ A3 H d gs ∧ ∀ D H', H D = none → AI H H' → H' D = some (.tup [.int p, .int (BS w gs p x y).1, .int (BS w gs p x y).2]) → Q (.ref D) H'
theorem J6 (T : Tx K mg) : Ao P w K mg base CX0 1 T.QO T.OP ["_law_stands", "_law_deed_here"] (TM K) := by
 refine T.IU.F.ok CN (fun vs H Q E h => ?_) (fun cdv A outer s H vs Q E hr h => ?_)
 ·obtain ⟨d, q, w, p, x, y, gs, rfl, hq, hd, k⟩ := h
  rfl
 ·obtain ⟨d, q, w, p, x, y, gs, rfl, hq, hd, k⟩ := h
  have hu := Ad hr
  refine ⟨_, (AD (II (pv 1) (Et (n := 4) rfl (Am (pgn 2 CN) (Am (pgn 3 CN) (Am (pgn 4 CN) (Am (pgn 5 CN) Ch))))))
   (AD (AY (ptc Ay (pv 2) AX) (AE (AH (Ai (AA (pv 3) (AA (pv 4) (AA (pv 5) AC))))))
    AL)
   (AD (II (Vp hu (pv 0) (pv 3) (Ai (AA AB (AA AB AC))) ⟨rfl, rfl, rfl, rfl⟩) (Et (n := 2) rfl (Am (pgn 6 CN) (Am (pgn 7 CN) Ch))))
   (AD (AY (ptc Ay (pv 2) AX) (AE (AH (Ai (AA (pv 3) (AA (AF Ak (pv 6) (pv 4)) (AA (AF Ak (pv 7) (pv 5)) AC))))))
    AL)
   (AD (AY (ptc Ay (pv 2) AX) (AE (AH (Ai (AA (pv 3) (AA (AF Al (pv 6) (pv 4)) (AA (AF Al (pv 7) (pv 5)) AC))))))
    AL)
   (AE (AH (Ai (AA (pv 3) (AA (pv 6) (AA (pv 7) AC))))))))))), ?_⟩
  unfold BS at k
  refine ⟨_, rfl, q, _, rfl, hq, rfl, _, _, rfl, _, _, rfl, _, _, rfl, _, _, rfl, rfl, ?_⟩
  dsimp only
  walk_at "Q"
  walk_at "RD"
  by_cases h1 : w = "put"
  ·rw [if_pos h1] at k
   rw [if_pos (decide_eq_true h1)]
   exact ⟨by decide, k⟩
  rw [if_neg h1] at k
  rw [if_neg (fun z => h1 (of_decide_eq_true z))]
  walk_at "NX"
  walk_at "Q"
  walk_at "RD"
  refine ⟨hd.isD, by decide, fun z0 H1 n1 s1 e1 => ?_⟩
  obtain ⟨o, gt, hn, hs⟩ := (hd.same s1).get p
  have hv : ∃ a f h, o.getD (V.ref z0) = V.ref a ∧ H1 a = some (.tup [.int f, .int h]) ∧ (A0 gs p).elim 0 G.f = f ∧ (A0 gs p).elim 0 G.h = h := by
   cases hg : A0 gs p with
   | none => rw [hn hg]; exact ⟨z0, 0, 0, rfl, e1, rfl, rfl⟩
   | some g => obtain ⟨a, rfl, ea⟩ := hs g hg; exact ⟨a, g.f, g.h, rfl, ea, rfl, rfl⟩
  obtain ⟨a, f, h, ea, et, ef, eh⟩ := hv
  rw [ef, eh] at k
  refine ⟨o, gt, a, ea, _, SqT.of et, rfl, _, _, rfl, _, _, rfl, rfl, ?_⟩
  walk_at "NX"
  walk_at "Q"
  walk_at "RD"
  by_cases h2 : w = "lift"
  ·rw [if_pos h2] at k
   rw [if_pos (decide_eq_true h2)]
   first | exact ⟨by decide, fun D H' n s e => k D H' (s1.free n) (s1.trans s) e⟩ | exact ⟨_, rfl, _, rfl, by decide, fun D H' n s e => k D H' (s1.free n) (s1.trans s) e⟩
  rw [if_neg h2] at k
  rw [if_neg (fun z => h2 (of_decide_eq_true z))]
  walk_at "NX"
  walk_at "Q"
  walk_at "RD"
  by_cases h3 : w = "sink"
  ·rw [if_pos h3] at k
   rw [if_pos (decide_eq_true h3)]
   first | exact ⟨by decide, fun D H' n s e => k D H' (s1.free n) (s1.trans s) e⟩ | exact ⟨_, rfl, _, rfl, by decide, fun D H' n s e => k D H' (s1.free n) (s1.trans s) e⟩
  rw [if_neg h3] at k
  rw [if_neg (fun z => h3 (of_decide_eq_true z))]
  walk_at "NX"
  walk_at "RD"
  exact ⟨by decide, fun D H' n s e => k D H' (s1.free n) (s1.trans s) e⟩
theorem CI : AO ["_law_stands", "_law_past", "_law_deed_here", "_law_word", "_law_place", "_law_one", "_law_two", "_law_gate"] ["_law_stands", "_law_past", "_law_deed_here"] (AG Ha) := by walk_at "SC"
noncomputable def Qn {K : PySem.W.Frag} {mg : Str → Option Value} (T : Tx K mg) : Sp := fun vs H Q _ => ∃ (b S P : Addr) (ow : List Addr) (gs : List G) (past : List (List G)) (D L q : Addr) (w : Str) (p x y : Int), vs = [.ref D, .ref L, .ref q] ∧ SqT K H q [.str w, .int p, .int x, .int y] ∧ Wd T.AS H b S P ow gs past D L ∧ Wrd w ∧ ∀ H', AI H H' → Q (.str (Wl (Bl w gs past p x y))) H'
theorem Qr (T : Tx K mg) : Ao P w K mg base CX0 2 T.ND T.LK ["_law_stands", "_law_past", "_law_deed_here"] (Qn T) := by
 refine T.NF.F.ok CI (fun vs H Q E h => ?_) (fun cdv A outer s H vs Q E hr h => ?_)
 ·obtain ⟨b, S, P, ow, gs, past, D, L, q, w, p, x, y, rfl, hq, hw, wd, k⟩ := h
  rfl
 ·obtain ⟨b, S, P, ow, gs, past, D, L, q, w, p, x, y, rfl, hq, hw, wd, k⟩ := h
  have hu := Ad hr
  refine ⟨_, (AD (II (pv 2) (Et (n := 4) rfl (Am (pgn 3 CI) (Am (pgn 4 CI) (Am (pgn 5 CI) (Am (pgn 6 CI) Ch))))))
   (AD (AY (ptc Ay (pv 3) AX) (AD (AY (ptc Da (pv 4) AB) (AE (AH AX))
      AL)
     (AE (AH (pxi AM (Ae (AA AX (AA AX AC))) (Bs Mo (by rfl) T.T4 Q9 (AA (pec Cq (pv 4) (AJ AT (by rfl) T.Az Ap (AA (pv 1) AC))) AC))))))
    AL)
   (AD (AY (Dm (ptc Ay (pv 3) AX) (Ca (Su (Wo hu (pv 4) (pv 0))))).pt (AE (AH AX))
    AL)
   (BY (AY (Dm (ptc Dq (pv 3) AX) (Ca (Su (U6 hu (pv 4) (pv 0))))).pt (AE (AH AX))
    AL)
   (AD (pst 7 CI (pcl T.IU (J6 T) hr AW (AA (pv 0) (AA (pv 2) AC))))
   (AD (AY (ptc Cq (pxi AK (pv 7) AB) (pxi AK (pv 7) AB)) (AE (AH AX))
    AL)
   (AD (AY (ptc Cq (AJ (VW (by rfl)) (by rfl) T.Rv RG (AA (AJ Dt (by rfl) T.ON Kg (AA (pxi AK (pv 7) AB) AC)) (AA (AJ Dt (by rfl) T.ON Kg (AA (pxi AK (pv 7) AB) AC)) (AA (AJ Dt (by rfl) T.ON Kg (AA (pxi AK (pv 7) AB) AC)) AC)))) AB) (AE (AH AX))
    AL)
   (AD (AY (Dm (ptc Ay (pv 3) AX) (Ca (ptc UY (AJ Di (by rfl) T.Az Ap (AA (pv 0) AC)) AB))).pt (AE (AH AX))
    AL)
   (AD (AY (ptc UY (AJ AT (by rfl) T.Az Ap (AA (pv 1) AC)) AB) (AE (AH AX))
    AL)
   (AE (AH AX))))))))))), ?_⟩
  obtain ⟨o, gt, hn, hs⟩ := hw.dk.get p
  have ho := Rq (H := H) (D := D) hn hs
  obtain ⟨xs, eL, lL⟩ := hw.plen
  obtain ⟨kvs, eD, lD⟩ := hw.dk.len
  refine ⟨_, rfl, q, _, rfl, hq, rfl, _, _, rfl, _, _, rfl, _, _, rfl, _, _, rfl, rfl, ?_⟩
  dsimp only
  walk_at "Q"
  walk_at "RD"
  by_cases nb : w = "back"
  ·rw [if_pos (decide_eq_true nb)]
   unfold Bl Lu at k
   rw [if_pos nb] at k
   by_cases h1 : p < 1
   ·rw [if_pos h1] at k
    rw [if_pos (decide_eq_true h1)]
    exact k _ (AI.refl _)
   rw [if_neg h1] at k
   rw [if_neg (fun z => h1 (of_decide_eq_true z))]
   refine ⟨by decide, fun z0 H1 n1 s1 e1 => ⟨_, .inl (SqL.of (s1.get eL)), _, SqL.of e1, ?_⟩⟩
   rw [lL]
   by_cases h2 : (past.length : Int) < p
   ·rw [if_pos h2] at k
    rw [if_pos (decide_eq_true h2)]
    exact ⟨_, rfl, k _ s1⟩
   ·rw [if_neg h2] at k
    rw [if_neg (fun z => h2 (of_decide_eq_true z))]
    exact ⟨_, rfl, k _ s1⟩
  rw [if_neg (fun z => nb (of_decide_eq_true z))]
  walk_at "NX"
  walk_at "RD"
  have hd1 := VP (gs := gs) (past := past) (p := p) (x := x) (y := y) wd nb
  refine W8 gt (fun hp ho' => ?_) (fun hB => ?_)
  ·rw [ho] at ho'
   rw [hd1.1 hp (of_decide_eq_true ho')] at k
   exact k _ (AI.refl _)
  refine ⟨fun σ' H' => σ' = [some (.ref D), some (.ref L), some (.ref q), some (.str w), some (.int p), some (.int x), some (.int y), none] ∧ H' = H ∧ (w = "put" → p ∉ AU gs) ∧ (w ≠ "put" → p ∈ AU gs), ?_, ?_⟩
  ·walk_at "RD"
   by_cases hp : w = "put"
   ·rw [if_neg (by simp [hp])]
    exact ⟨fun z => by have := hB hp; rw [ho] at this; exact of_decide_eq_false this, fun z => absurd hp z⟩
   ·rw [if_pos (by simp [hp])]
    refine ⟨o, gt, ?_⟩
    rw [ho]
    by_cases hm : p ∈ AU gs
    ·rw [if_neg (by simp [hm])]
     exact ⟨fun z => absurd z hp, fun _ => hm⟩
    ·rw [if_pos (by simp [hm])]
     rw [hd1.2 hp hm] at k
     exact k _ (AI.refl _)
  rintro σ' H' ⟨rfl, rfl, t1, t2⟩
  have de := S5 (past := past) (x := x) (y := y) wd nb t1 t2 hw.bch.std
  rw [de] at k
  walk_at "Q"
  walk_at "RD"
  refine ⟨D, q, w, p, x, y, gs, rfl, hq, hw.dk, fun g H1 n1 s1 e1 => ?_⟩
  walk_at "NX"
  generalize (BS w gs p x y).1 = wf at *
  generalize (BS w gs p x y).2 = wh at *
  walk_at "RD"
  walk_at "AUTO"
  unfold Df DO at k
  by_cases h1 : wh < wf
  ·rw [if_pos h1] at k
   rw [if_pos (decide_eq_true h1)]
   exact k _ s1
  rw [if_neg h1] at k
  rw [if_neg (fun z => h1 (of_decide_eq_true z))]
  refine ⟨_, SqT.of e1, _, rfl, _, rfl, _, SqT.of e1, _, rfl, _, rfl, _, SqT.of e1, _, rfl, _, rfl, fun m hm => ?_⟩
  have hm1 := hm 1000
  by_cases h2 : InB p ∧ InB wf ∧ InB wh
  ·have hle : m ≤ 1000 := hm1.mpr ⟨by split <;> lia, by split <;> lia, by split <;> lia⟩
   rw [if_neg (fun z => by have := of_decide_eq_true z; lia)]
   rw [if_pos h2] at k
   have tail : (∀ X, AI H' X → Q (.str (Wl (if 300 ≤ past.length then some .deeds else none))) X) → ∃ x, (SqL K H1 L x ∨ SqT K H1 L x) ∧ if decide (300 ≤ (x.length : Int)) = true then Q (V.str (Str.ofString "deeds full")) H1 else Q (V.str (Str.ofString "")) H1 := fun k => by
    refine ⟨_, .inl (SqL.of (s1.get eL)), ?_⟩
    rw [lL]
    by_cases h5 : 300 ≤ past.length
    ·rw [if_pos h5] at k
     rw [if_pos (decide_eq_true (by lia))]
     exact k _ s1
    ·rw [if_neg h5] at k
     rw [if_neg (fun z => h5 (by have := of_decide_eq_true z; lia))]
     exact k _ s1
   by_cases h3 : w = "put"
   ·rw [if_pos (decide_eq_true h3)]
    refine ⟨kvs, s1.get eD, ?_⟩
    rw [lD]
    by_cases h4 : 40 ≤ gs.length
    ·rw [if_pos ⟨h3, h4⟩] at k
     rw [if_pos (decide_eq_true (by lia))]
     exact k _ s1
    ·rw [if_neg (fun z => h4 z.2)] at k
     rw [if_neg (fun z => h4 (by have := of_decide_eq_true z; lia))]
     exact tail k
   ·rw [if_neg (fun z => h3 z.1)] at k
    rw [if_neg (fun z => h3 (of_decide_eq_true z))]
    exact tail k
  ·rw [if_neg h2] at k
   rw [if_pos (decide_eq_true (by
    by_cases z : 1000 < m
    ·exact z
    ·exfalso
     apply h2
     obtain ⟨q1, q2, q3⟩ := hm1.mp (by lia)
     refine ⟨⟨?_, ?_⟩, ⟨?_, ?_⟩, ?_, ?_⟩ <;> (revert q1 q2 q3; split <;> split <;> split <;> lia)))]
   exact k _ s1
theorem BO : AO ["_law_beach", "_law_deed_here", "_law_word", "_law_place", "_law_one", "_law_two", "_law_told"] ["_law_beach", "_law_deed_here"] (AG No) := by walk_at "SC"
noncomputable def Ug {K : PySem.W.Frag} {mg : Str → Option Value} (T : Tx K mg) : Sp := fun vs H Q _ => ∃ (b S P : Addr) (ow : List Addr) (gs : List G) (past : List (List G)) (q : Addr) (w : Str) (p x y : Int), vs = [.ref b, .ref q] ∧ SqT K H q [.str w, .int p, .int x, .int y] ∧ Bch T.AS H b S P ow gs past ∧ Wrd w ∧ (∀ e, Bl w gs past p x y = some e → ∀ D H', H D = none → AI H H' → H' D = some (.lst [.bl false, .str (Va e)]) → Q (.ref D) H') ∧ (Bl w gs past p x y = none → ∀ D H' S' P' ow' v, H D = none → Kp b P H H' → Bch T.AS H' b S' P' ow' (Eb w gs past p x y) (Le w gs past p) → (∀ a ∈ ow', a ∈ ow ∨ H a = none) → (∃ u, H' P = some u) → D ∉ ow' → H' D = some (.lst [.bl true, v]) → (w = "back" → v = .int ((Le w gs past p).length : Int)) → (w ≠ "back" → ∃ t, v = .ref t ∧ H' t = some (.tup [.int p, .int (BS w gs p x y).1, .int (BS w gs p x y).2])) → Q (.ref D) H')
theorem Uo (T : Tx K mg) : Ao P w K mg base CX0 4 T.SI T.QD ["_law_beach", "_law_deed_here"] (Ug T) := by
 refine T.R9.F.ok BO (fun vs H Q E h => ?_) (fun cdv A outer s H vs Q E hr h => ?_)
 ·obtain ⟨b, S, P, ow, gs, past, q, w, p, x, y, rfl, hq, hb, wd, kE, k⟩ := h
  rfl
 ·obtain ⟨b, S, P, ow, gs, past, q, w, p, x, y, rfl, hq, hb, wd, kE, k⟩ := h
  have hu := Ad hr
  refine ⟨_, (AD (II (pv 1) (Et (n := 4) rfl (Am (pgn 2 BO) (Am (pgn 3 BO) (Am (pgn 4 BO) (Am (pgn 5 BO) Ch))))))
   (AD (pst 6 BO AX)
   (BY (ZR rfl rfl (fun _ _ _ hp => (AD (AY (ptc Ay (pv 2) AX) (AE (AH (Ae (AA BD (AA (IP (pv 0) T.AV T.HP.mt (RJ T) (hr.mono (by decide)) T.HP.b .nil hp (AA (pv 3) (AA (pv 4) (AA (pv 5) AC)))) AC)))))
           AL)
      (AD (AY (ptc Ay (pv 2) AX) (AE (AH (Ae (AA BD (AA (IP (pv 0) T.AV T.GI.mt (PH T) (hr.mono (by decide)) T.GI.b .nil hp (AA (pv 3) AC)) AC)))))
       AL)
      (AD (AY (ptc Ay (pv 2) AX) (AE (AH (Ae (AA BD (AA (IP (pv 0) T.AV T.Cc.mt (Jt T) (hr.mono (by decide)) T.Cc.b .nil hp (AA (pv 3) (AA (pv 4) (AA (pv 5) AC)))) AC)))))
       AL)
      (AD (AY (ptc Ay (pv 2) AX) (AE (AH (Ae (AA BD (AA (IP (pv 0) T.AV T.GM.mt (Ph T) (hr.mono (by decide)) T.GM.b .nil hp (AA (pv 3) (AA (pv 4) (AA (pv 5) AC)))) AC)))))
       AL)
      (AD (AY (Dm (ptc Ay (pv 3) AB) (Ca (ptc Ay (pv 4) AB))).pt (AE (AH (Ae (AA BD (AA (Ux (pv 0) T.AV T.CC.mt (Jp T) (hr.mono (by decide)) T.CC.bd.choose_spec.2 T.CC.bd.choose_spec.1 hp) AC)))))
       AL)
      (AE (AH (Ae (AA BD (AA (IP (pv 0) T.AV T.CC.mt (Jp T) (hr.mono (by decide)) T.CC.b .nil hp (AA (pv 3) AC)) AC)))))))))))
    (PHs.cons (by rfl) T.RS (by decide) (fun _ _ => (AE (pst 6 BO AX))) (PHs.cons (by rfl) T.T8 (by decide) (fun _ _ => (AE (pst 6 BO AX))) (PHs.cons (by rfl) T.Lv (by decide) (fun _ _ => (AE (pst 6 BO AX))) (PHs.cons (by rfl) T.Eu (by decide) (fun _ _ => (AE (pst 6 BO AX))) (PHs.cons (by rfl) T.My (by decide) (fun _ _ => (AE (pst 6 BO AX))) (PHs.cons (by rfl) T.M0 (by decide) (fun _ _ => (AE (pst 6 BO AX))) (PHs.cons (by rfl) T.Jr (by decide) (fun _ _ => (AE (pst 6 BO AX))) PHs.nil))))))))
   (AE (AH (Ae (AA BD (AA (pv 6) AC)))))))), ?_⟩
  obtain ⟨dx, eb⟩ := hb.at_
  refine ⟨_, rfl, q, _, rfl, hq, rfl, _, _, rfl, _, _, rfl, _, _, rfl, _, _, rfl, rfl, ?_⟩
  walk_at "RD"
  refine ⟨fun σ' H' => ∃ e, Bl w gs past p x y = some e ∧ AI H H' ∧ σ' = [some (.ref b), some (.ref q), some (.str w), some (.int p), some (.int x), some (.int y), some (.str (Va e))], ?_, ?_⟩
  ·refine Vb fun N hN => ?_
   have hE : ∀ e H', Bl w gs past p x y = some e → KJ e = true → AI H H' → N (T.err e) [some (V.ref b), some (V.ref q), some (V.str w), some (V.int p), some (V.int x), some (V.int y), some (V.str (Str.ofString ""))] H' := fun e H' he hd s => by
    refine hN _ _ _ ?_
    cases e <;> first
     | exact absurd hd Bool.false_ne_true
     | (simp only [tHs, Tx.err, T.NL, T.Oc, T.Iu, T.HI, T.Ke, T.KP, T.HF, T.Nd, T.O7, T.KH, T.Iw, T.Ln, T.Lo, T.Iy, T.JA, T.KI, T.Fc, T.Ey, T.GB, T.GJ, T.E1, T.IC, T.Iq, T.Ej, T.EG, T.FC, T.Fh, T.EH, T.KF, T.LD, T.Fq, T.Fb, T.G6, T.Gx, T.E7, T.J5, T.Lg, T.GE, T.FX, T.Gz, T.G7, T.E9, T.HR, T.Ir, T.Eo, T.EE, T.FF, T.FS, T.EF, T.MW, T.NW, T.Hv, T.G5, T.Iv, T.I0, T.G9, T.NU, T.Nt, T.Ix, T.HS, T.KD, T.KZ, T.IH, T.KQ, T.Kj, T.GQ, T.FB, T.G4, T.G3, T.FW, T.LR, T.Mh, T.Gy, T.GC, T.HJ, T.Hf, T.F9, Option.some.injEq, exists_eq_left', if_true, Bool.false_eq_true, if_false, OQ, EM, tC, List.set_cons_zero, List.set_cons_succ]
        exact ⟨_, he, s, rfl⟩)
   clear hN
   delta S8
   by_cases h_put : w = "put"
   ·rw [if_pos (decide_eq_true h_put)]
    refine ⟨dx, _, eb, rfl, b, S, P, ow, gs, past, p, x, y, rfl, hb, fun e he H' s => hE e H' ((MB h_put).trans he) (W0 he) s, fun  hno H' S' ow' D kp hb' ho eD => ⟨by decide, fun D2 H2 n2 s2 e2 => ?_⟩⟩
    have nb : w ≠ "back" := by rw [h_put]; decide
    refine k ((MB h_put).trans hno) D2 H2 S' P ow' _ (kp.free hb'.live.1 hb'.live.2 n2) (kp.trans (Kp.of s2)) ?_ ho (hb'.live.2.imp fun _ z => s2.get z) (hb'.off n2) e2 (fun z => absurd z nb) fun _ => ⟨D, rfl, ?_⟩
    ·rw [FL nb (by rw [h_put]; decide), Fa nb, MD h_put]
     exact hb'.same s2
    ·rw [MD h_put]
     exact s2.get (eD)
   rw [if_neg (fun z => h_put (of_decide_eq_true z))]
   by_cases h_take : w = "take"
   ·rw [if_pos (decide_eq_true h_take)]
    refine ⟨dx, _, eb, rfl, b, S, P, ow, gs, past, p, rfl, hb, fun e he H' s => hE e H' ((KM h_take).trans he) (Wb he) s, fun g hg hno H' S' ow' D kp hb' ho eD => ⟨by decide, fun D2 H2 n2 s2 e2 => ?_⟩⟩
    have nb : w ≠ "back" := by rw [h_take]; decide
    refine k ((KM h_take).trans hno) D2 H2 S' P ow' _ (kp.free hb'.live.1 hb'.live.2 n2) (kp.trans (Kp.of s2)) ?_ ho (hb'.live.2.imp fun _ z => s2.get z) (hb'.off n2) e2 (fun z => absurd z nb) fun _ => ⟨D, rfl, ?_⟩
    ·rw [OK h_take, Fa nb]
     exact hb'.same s2
    ·rw [S4 h_take hg]
     exact s2.get ((Bk hg).2 ▸ eD)
   rw [if_neg (fun z => h_take (of_decide_eq_true z))]
   by_cases h_lift : w = "lift"
   ·rw [if_pos (decide_eq_true h_lift)]
    refine ⟨dx, _, eb, rfl, b, S, P, ow, gs, past, p, x, y, rfl, hb, fun e he H' s => hE e H' ((Ol h_lift).trans he) (Ri he) s, fun g hg hno H' S' ow' D kp hb' ho eD => ⟨by decide, fun D2 H2 n2 s2 e2 => ?_⟩⟩
    have nb : w ≠ "back" := by rw [h_lift]; decide
    refine k ((Ol h_lift).trans hno) D2 H2 S' P ow' _ (kp.free hb'.live.1 hb'.live.2 n2) (kp.trans (Kp.of s2)) ?_ ho (hb'.live.2.imp fun _ z => s2.get z) (hb'.off n2) e2 (fun z => absurd z nb) fun _ => ⟨D, rfl, ?_⟩
    ·rw [FL nb (by rw [h_lift]; decide), Fa nb, OT h_lift hg]
     exact hb'.same s2
    ·rw [OT h_lift hg]
     exact s2.get (eD)
   rw [if_neg (fun z => h_lift (of_decide_eq_true z))]
   by_cases h_sink : w = "sink"
   ·rw [if_pos (decide_eq_true h_sink)]
    refine ⟨dx, _, eb, rfl, b, S, P, ow, gs, past, p, x, y, rfl, hb, fun e he H' s => hE e H' ((Ob h_sink).trans he) (Ri he) s, fun g hg hno H' S' ow' D kp hb' ho eD => ⟨by decide, fun D2 H2 n2 s2 e2 => ?_⟩⟩
    have nb : w ≠ "back" := by rw [h_sink]; decide
    refine k ((Ob h_sink).trans hno) D2 H2 S' P ow' _ (kp.free hb'.live.1 hb'.live.2 n2) (kp.trans (Kp.of s2)) ?_ ho (hb'.live.2.imp fun _ z => s2.get z) (hb'.off n2) e2 (fun z => absurd z nb) fun _ => ⟨D, rfl, ?_⟩
    ·rw [FL nb (by rw [h_sink]; decide), Fa nb, Nl h_sink hg]
     exact hb'.same s2
    ·rw [Nl h_sink hg]
     exact s2.get (eD)
   rw [if_neg (fun z => h_sink (of_decide_eq_true z))]
   have hw := wd.last h_put h_take h_lift h_sink
   have back : ∀ n, n = p → JS T [V.ref b, V.int n] H (fun v H1 => 2 ≤ sizeLine ∧ ∀ (D : Addr) (H' : Hp), H1 D = none → AI H1 H' → H' D = some (HO.lst [V.bl true, v]) → Q (V.ref D) H') (fun cls _ H' => N cls [some (V.ref b), some (V.ref q), some (V.str w), some (V.int p), some (V.int x), some (V.int y), some (V.str (Str.ofString ""))] H') := fun n hn => by
    subst hn
    refine ⟨b, S, P, ow, gs, past, n, rfl, hb, fun e he => hE e H ((J7 hw).trans he) (Vq he) (AI.refl _), fun hno H' S' P' ow' kp hb' ho => ⟨by decide, fun D2 H2 n2 s2 e2 => ?_⟩⟩
    have kp' : Kp b P H H' := fun a u h1 _ e => kp a u h1 h1 e
    obtain ⟨ps, eP, _⟩ := hb.pa
    have neP : P ≠ b := hb.neb eP fun _ _ _ z => by cases z
    have lP : ∃ u, H' P = some u := ⟨_, kp P _ neP neP eP⟩
    have eG : Eb w gs past n x y = past.getD (past.length - n.toNat) [] := if_pos hw
    have eP' : Le w gs past n = past.take (past.length - n.toNat) := if_pos hw
    refine k ((J7 hw).trans hno) D2 H2 S' P' ow' _ (kp'.free hb'.live.1 lP n2) (kp'.trans (Kp.of s2)) ?_ ho (lP.imp fun _ z => s2.get z) (hb'.off n2) e2 (fun _ => by rw [eP']) fun z => absurd hw z
    rw [eG, eP']
    exact hb'.same s2
   by_cases h5 : p = 1
   ·rw [if_pos (decide_eq_true h5)]
    by_cases h6 : x = 1
    ·rw [if_pos (decide_eq_true h6)]
     exact ⟨dx, _, eb, rfl, back 1 h5.symm⟩
    ·rw [if_neg (fun z => h6 (of_decide_eq_true z))]
     exact ⟨dx, _, eb, rfl, back p rfl⟩
   ·rw [if_neg (fun z => h5 (of_decide_eq_true z))]
    exact ⟨dx, _, eb, rfl, back p rfl⟩
  ·rintro σ' H' ⟨e, he, s, rfl⟩
   walk_at "RD"
   exact ⟨by decide, fun D H2 n2 s2 e2 => kE e he D H2 (s.free n2) (s.trans s2) e2⟩
theorem CY : AO ["_law_stands", "_law_past", "_law_deed_here", "_law_word", "_law_place", "_law_one", "_law_two", "_law_kept_here", "_law_count", "_law_gate"] ["_law_stands", "_law_past", "_law_deed_here"] (AG Oj) := by walk_at "SC"
noncomputable def VO {K : PySem.W.Frag} {mg : Str → Option Value} (T : Tx K mg) : Sp := fun vs H Q _ => ∃ (b S P : Addr) (ow : List Addr) (gs' gs : List G) (past' past : List (List G)) (D L q : Addr) (w : Str) (p x y : Int), vs = [.ref D, .ref L, .ref q] ∧ SqT K H q [.str w, .int p, .int x, .int y] ∧ Bch T.AS H b S P ow (Eb w gs past p x y) (Le w gs past p) ∧ Std gs ∧ past.length ≤ 300 ∧ A3 H D gs ∧ (∃ ds : List Addr, H L = some (.lst (ds.map V.ref)) ∧ Paired (A3 H) ds past ∧ D ∉ ds) ∧ L ∉ ow ∧ Wrd w ∧ Bl w gs past p x y = none ∧ ∀ H', Wd T.AS H' b S P ow (Eb w gs past p x y) (Le w gs past p) D L → Kept (L :: ow) H H' (L :: ow) → Q .non H'
theorem U3 (T : Tx K mg) : Ao P w K mg base CX0 2 T.SQ T.QC ["_law_stands", "_law_past", "_law_deed_here"] (VO T) := by
 refine T.Rx.F.ok CY (fun vs H Q E h => ?_) (fun cdv A outer s H vs Q E hr h => ?_)
 ·obtain ⟨b, S, P, ow, gs', gs, past', past, D, L, q, w, p, x, y, rfl, hq, hb, sd, l3, hd, ⟨ds, eL, pr, hds⟩, hL, wd, hno, k⟩ := h
  rfl
 ·obtain ⟨b, S, P, ow, gs', gs, past', past, D, L, q, w, p, x, y, rfl, hq, hb, sd, l3, hd, ⟨ds, eL, pr, hds⟩, hL, wd, hno, k⟩ := h
  have hu := Ad hr
  refine ⟨_, (AD (II (pv 2) (Et (n := 4) rfl (Am (pgn 3 CY) (Am (pgn 4 CY) (Am (pgn 5 CY) (Am (pgn 6 CY) Ch))))))
   (AD (AY (ptc Ay (pv 3) AX) (AD (pst 7 CY (pxi AM (pv 1) (AF Al (AJ AT (by rfl) T.Az Ap (AA (pv 1) AC)) (pv 4))))
     (AD (BC (Vg PySem.F.plainAttrs_dict PySem.F.slot_dict_clear PySem.F.type_dict_clear VA (pv 0)))
     (AD (BC (Xy PySem.F.plainAttrs_dict PySem.F.slot_dict_update PySem.F.type_dict_update XY (pv 0) (AA (pv 7) AC)))
     (AD (BA PassesOwn.never rfl (CG (by rfl) T.CM (AA (pv 4) AC)) (pgn 8 CY)
      (AE (BC (Vg PySem.F.plainAttrs_list PySem.F.slot_list_pop PySem.F.type_list_pop Ym (pv 1)))))
     (AE XZ)))))
    AL)
   (AD (pst 9 CY (pcl T.IU (J6 T) hr AW (AA (pv 0) (AA (pv 2) AC))))
   (AD (BC (CW (pv 1) (Bs Sz (by rfl) T.ZW Xa (AA (pv 0) AC))))
   (AE (AY (ptc Ay (pv 3) AX) (AE (BC (Wp (pv 0) (pv 4) ⟨rfl, rfl, rfl, rfl⟩)))
    (AE (UM hu (pv 0) (pv 4) (Ai (AA (pxi AK (pv 9) AB) (AA (pxi AK (pv 9) AB) AC))) rfl)))))))), ?_⟩
  obtain ⟨kvs, ks, eD, hd2⟩ := hd.at_
  have lds := Paired.length pr
  refine ⟨_, rfl, q, _, rfl, hq, rfl, _, _, rfl, _, _, rfl, _, _, rfl, _, _, rfl, rfl, ?_⟩
  dsimp only
  walk_at "Q"
  walk_at "RD"
  by_cases hw : w = "back"
  ·rw [if_pos (decide_eq_true hw)]
   rw [J7 hw] at hno
   unfold Lu at hno
   have h1 : 1 ≤ p := by
    by_cases z : p < 1
    ·rw [if_pos z] at hno; cases hno
    ·lia
   have h2 : p ≤ past.length := by
    by_cases z : (past.length : Int) < p
    ·rw [if_neg (by lia), if_pos z] at hno; cases hno
    ·lia
   have hj : past.length - p.toNat < past.length := by lia
   have ej : (((ds.map V.ref).length : Nat) : Int) - p = ((past.length - p.toNat : Nat) : Int) := by rw [List.length_map]; lia
   have eG : Eb w gs past p x y = past[past.length - p.toNat] := by
    unfold Eb
    rw [if_pos hw, List.getD_eq_getElem?_getD, List.getElem?_eq_getElem hj]
    rfl
   have eP : Le w gs past p = past.take (past.length - p.toNat) := if_pos hw
   obtain ⟨dj, hdj, kj⟩ := Paired.get pr (List.getElem?_eq_getElem hj)
   have hdD : D ≠ dj := fun z => hds (by rw [z]; exact List.mem_of_getElem? hdj)
   obtain ⟨kvj, _, eJ, _⟩ := kj.at_
   refine ⟨_, .inl (SqL.of eL), _, SqL.of eL, V.ref dj, ?_, ?_⟩
   ·rw [ej]
    exact Cb hdj
   delta ZV tBM T9 X1
   have DnL : D ≠ L := Be eD eL fun z => by cases z
   refine ⟨Xw eD, ⟨_, eD⟩, Xw AQ, hdD, AQ, kvj, (AN hdD.symm).trans eJ, ?_⟩
   have k2 : DL D L H (upd (upd H D (.dK [])) D (.dK kvj)) := DL.updD.trans DL.updD
   have eL2 : upd (upd H D (.dK [])) D (.dK kvj) L = some (.lst (ds.map V.ref)) := (AN DnL.symm).trans ((AN DnL.symm).trans eL)
   have eD2 : upd (upd H D (.dK [])) D (.dK kvj) D = some (.dK kvj) := AQ
   generalize upd (upd H D (.dK [])) D (.dK kvj) = H2 at *
   refine ⟨_, rfl, _, rfl, by lia, by lia, BV (fun i σ H' => ∃ o, σ = [some (V.ref D), some (V.ref L), some (V.ref q), some (V.str w), some (V.int p), some (V.int x), some (V.int y), some (V.ref dj), o, none] ∧ DL L L H2 H' ∧ H' L = some (.lst ((ds.take (ds.length - i)).map V.ref))) ⟨_, rfl, DL.of (AI.refl _), by rw [Nat.sub_zero, List.take_length]; exact eL2⟩ ?_ ?_⟩
   ·rintro i σ H3 hi ⟨o, rfl, k3, e3⟩
    delta ZV rPop
    have hm : (ds.take (ds.length - i)).length = ds.length - i := by rw [List.length_take]; lia
    have hlt : ds.length - i - 1 < ds.length := by lia
    refine ⟨tyV_l e3, _, e3, ⟨V.ref ds[ds.length - i - 1], ?_⟩, ⟨_, rfl⟩, k3.trans DL.updL, ?_⟩
    ·rw [List.length_map, hm, List.getElem?_map, List.getElem?_take_of_lt (by lia), List.getElem?_eq_getElem hlt]
     rfl
    ·rw [AQ, List.dropLast_eq_take, List.length_map, hm, ← List.map_take, List.take_take, show min (ds.length - i - 1) (ds.length - i) = ds.length - (i + 1) by lia]
   ·rintro σ H3 ⟨o, rfl, k3, e3⟩
    have k13 : DL D L H H3 := fun a u h1 h2 e => k3 a u h2 h2 (k2 a u h1 h2 e)
    have eD3 := k3 D _ DnL DnL eD2
    have lj : ds.length - p.toNat = past.length - p.toNat := by lia
    rw [lj] at e3
    refine k H3 ⟨hb.dl eD eL hL k13, ?_, ⟨ds.take (past.length - p.toNat), e3, ?_, fun z => hds (List.mem_of_mem_take z)⟩, hL⟩ (Kept.dl eD eL k13 ⟨_, eD3⟩ ⟨_, e3⟩)
    ·rw [eG]
     exact kj.copy eJ eD3 fun _ _ e => k13.tup eD eL e
    ·rw [eP]
     exact Paired.takeP (Paired.dl pr hds eD eL k13) _
  ·rw [if_neg (fun z => hw (of_decide_eq_true z))]
   walk_at "NX"
   walk_at "Q"
   walk_at "RD"
   refine ⟨D, q, w, p, x, y, gs, rfl, hq, hd, fun g H1 n1 s1 e1 => ?_⟩
   walk_at "NX"
   walk_at "Q"
   walk_at "RD"
   refine ⟨⟨_, s1.get eL⟩, kvs, s1.get eD, fun c H2 n2 s2 e2 => ⟨_, s2.get (s1.get eL), ?_, ?_⟩⟩
   ·rw [List.length_map, PySem.sizeLine_eq]; lia
   walk_at "NX"
   walk_at "RD"
   have eD2 := s2.get (s1.get eD)
   have eL2 := s2.get (s1.get eL)
   have cD : c ≠ D := (An (s1.get eD) n2).symm
   have cL : c ≠ L := (An (s1.get eL) n2).symm
   have DnL : D ≠ L := Be eD eL fun z => by cases z
   have k3 : DL D L H (upd H2 L (.lst (ds.map V.ref ++ [V.ref c]))) := (DL.of (s1.trans s2)).trans DL.updL
   have eD3 : upd H2 L (.lst (ds.map V.ref ++ [V.ref c])) D = some (.dK kvs) := (AN DnL).trans eD2
   have d3 : A3 (upd H2 L (.lst (ds.map V.ref ++ [V.ref c]))) D gs := hd.copy eD eD3 fun _ _ e => k3.tup eD eL e
   have fin : ∀ H5, DL D L (upd H2 L (.lst (ds.map V.ref ++ [V.ref c]))) H5 → H5 L = some (.lst (ds.map V.ref ++ [V.ref c])) → A3 H5 D (Eb w gs past p x y) → Q V.non H5 := fun H5 k5 e5 d5 => by
    have k15 := k3.trans k5
    obtain ⟨kv5, _, eD5, _⟩ := d5.at_
    refine k H5 ⟨hb.dl eD eL hL k15, d5, ⟨ds ++ [c], by rw [List.map_append]; exact e5, ?_, fun z => ?_⟩, hL⟩ (Kept.dl eD eL k15 ⟨_, eD5⟩ ⟨_, e5⟩)
    ·rw [Fa hw]
     exact Paired.snoc (Paired.dl pr hds eD eL k15) (hd.copy eD (k5 c _ cD cL ((AN cL).trans e2)) fun _ _ e => k15.tup eD eL e)
    ·rcases List.mem_append.mp z with z | z
     ·exact hds z
     ·exact cD (List.mem_singleton.mp z).symm
   by_cases h2 : w = "take"
   ·rw [if_pos (decide_eq_true h2)]
    rw [KM h2] at hno
    unfold Gk at hno
    have hp : p ∈ AU gs := by
     by_cases z : p ∈ AU gs
     ·exact z
     ·rw [if_neg z] at hno; cases hno
    obtain ⟨gg, hgg, hgp⟩ := List.mem_map.mp hp
    subst hgp
    obtain ⟨kv, a, z1, z2, z3⟩ := d3.pop hgg
    refine ⟨d3.isD, kv, z1, .inl gg.p, rfl, ⟨_, z2⟩, fin _ DL.updD ((AN DnL.symm).trans AQ) ?_⟩
    rw [OK h2]
    exact z3
   ·rw [if_neg (fun z => h2 (of_decide_eq_true z))]
    have e13 := k3.trans (DL.of (AI.refl _))
    have eg : upd H2 L (.lst (ds.map V.ref ++ [V.ref c])) g = some (.tup [.int p, .int (BS w gs p x y).1, .int (BS w gs p x y).2]) := (AN (Be (s2.get e1) eL2 fun z => by cases z)).trans (s2.get e1)
    refine ⟨_, SqT.of eg, _, rfl, _, SqT.of eg, _, rfl, by decide, fun t H4 n4 s4 e4 => ?_⟩
    obtain ⟨kv, kv', z1, z2, z3⟩ := (d3.same s4).dput (x := p) sd e4
    refine ⟨_, z2, fin _ ((DL.of s4).trans DL.updD) ((AN DnL.symm).trans (s4.get AQ)) ?_⟩
    rw [FL hw h2]
    exact z3
theorem Fg : AO ["_law_beach", "_law_stands", "_law_past", "_law_deed_here", "_law_due", "_law_gate", "_law_good", "_law_told"] ["_law_beach", "_law_stands", "_law_past", "_law_deed_here"] (AG Oi) := by walk_at "SC"
noncomputable def Uq {K : PySem.W.Frag} {mg : Str → Option Value} (T : Tx K mg) : Sp := fun vs H Q _ => ∃ (b S P : Addr) (ow : List Addr) (gs : List G) (past : List (List G)) (D L q : Addr) (w : Str) (p x y : Int), vs = [.ref b, .ref D, .ref L, .ref q] ∧ SqT K H q [.str w, .int p, .int x, .int y] ∧ Wd T.AS H b S P ow gs past D L ∧ Wrd w ∧ ∀ H' S' P' ow', Wd T.AS H' b S' P' ow' (aft w gs past p x y).1 (aft w gs past p x y).2 D L → Kept (L :: ow) H H' (L :: ow') → Q (.bl true) H'
theorem MF (T : Tx K mg) : Ao P w K mg base CX0 5 T.Si T.QE ["_law_beach", "_law_stands", "_law_past", "_law_deed_here"] (Uq T) := by
 refine T.LF.F.ok Fg (fun vs H Q E h => ?_) (fun cdv A outer s H vs Q E hr h => ?_)
 ·obtain ⟨b, S, P, ow, gs, past, D, L, q, w, p, x, y, rfl, hq, hw, wd, k⟩ := h
  rfl
 ·obtain ⟨b, S, P, ow, gs, past, D, L, q, w, p, x, y, rfl, hq, hw, wd, k⟩ := h
  have hu := Ad hr
  refine ⟨_, (AD (pst 4 Fg (pcl T.NF (Qr T) hr AW (AA (pv 1) (AA (pv 2) (AA (pv 3) AC)))))
   (AD (pst 5 Fg (pcl T.IU (J6 T) hr AW (AA (pv 1) (AA (pv 3) AC))))
   (AD (II (pcl T.R9 (Uo T) hr AW (AA (pv 0) (AA (pv 3) AC))) (Yi (n := 2) rfl (Am (pgn 6 Fg) (Am (pgn 7 Fg) Ch))))
   (AD (AY (ptc Dq (pv 6) (pec Ay (pv 4) AX)) (AE (AH BD))
    AL)
   (AD (AY (ptc Dq (pv 4) AX) (AE (AH (pec Ay (pv 7) (pv 4))))
    AL)
   (AD (BC (pcl T.Rx (U3 T) hr AW (AA (pv 1) (AA (pv 2) (AA (pv 3) AC)))))
   (AD (AY (ptc Ay (pxi AK (pv 3) AB) AX) (AE (AH (RM (pcl T.FU (Fp T) hr AW (AA (pv 7) AC)) (RD (pec Ay (pv 7) (AJ AT (by rfl) T.Az Ap (AA (pv 2) AC)))))))
    AL)
   (AE (AH (pcl T.Mz (Qp T) hr AW (AA (pv 7) (AA (pv 5) AC)))))))))))), ?_⟩
  walk_at "RD"
  refine ⟨b, S, P, ow, gs, past, D, L, q, w, p, x, y, rfl, hq, hw, wd, fun H1 s1 => ?_⟩
  refine ⟨D, q, w, p, x, y, gs, rfl, s1.tup hq, hw.dk.same s1, fun g H2 n2 s2 e2 => ?_⟩
  have s12 := s1.trans s2
  have hw2 := hw.same s12
  refine ⟨b, S, P, ow, gs, past, q, w, p, x, y, rfl, s12.tup hq, hw2.bch, wd, fun e he Dn H3 n3 s3 e3 => ?_, fun hno Dn H3 S' P' ow' v n3 kp hb' ho lv nf e3 hv1 hv2 => ?_⟩
  ·rw [he]
   walk_at "RD"
   have h0 : decide (Wl (some e) = Str.ofString "") = false := decide_eq_false XV
   refine ⟨_, SqL.of e3, rfl, _, _, rfl, _, _, rfl, rfl, rfl, ?_⟩
   rw [h0, if_neg (by simp), if_pos (show (!false) = true from rfl)]
   refine ⟨rfl, ?_⟩
   rw [decide_eq_true (show V.str (Va e) = V.str (Wl (some e)) from rfl)]
   have s13 := s12.trans s3
   exact k H3 S P ow (by rw [UW he]; exact hw.same s13) (Kept.of s13)
  ·rw [hno]
   walk_at "RD"
   have h0 : decide (Wl none = Str.ofString "") = true := decide_eq_true rfl
   refine ⟨_, SqL.of e3, rfl, _, _, rfl, _, _, rfl, rfl, rfl, ?_⟩
   rw [h0, if_neg (by simp), if_neg (by simp)]
   obtain ⟨dD, lD, hLo⟩ := hw2.deed kp hb' ho
   have q3 := hw2.bch.sqt kp (s12.tup hq)
   refine ⟨b, S', P', ow', gs, gs, past, past, D, L, q, w, p, x, y, rfl, q3, hb', hw.bch.std, hw.bch.len, dD, lD, hLo, wd, hno, fun H4 wd4 kt4 => ?_⟩
   have kt : Kept (L :: ow) H H4 (L :: ow') := (Kept.of s12).trans ((Kept.kp hw2.bch kp hb' ho lv).cons.trans kt4)
   have fin : Q (.bl true) H4 := k H4 S' P' ow' (by rw [Tb hno]; exact wd4) kt
   refine ⟨_, kt4.sqt q3, _, rfl, rfl, ?_⟩
   by_cases hback : w = "back"
   ·rw [if_pos (decide_eq_true (by rw [hback])), hv1 hback]
    obtain ⟨xs, eL4, lL4⟩ := wd4.plen
    delta C3
    refine ⟨⟨_, rfl⟩, _, .inl (SqL.of eL4), ?_⟩
    rw [lL4, decide_eq_true rfl]
    exact fin
   ·rw [if_neg (fun z => hback (V.str.inj (of_decide_eq_true z)))]
    obtain ⟨t, rfl, et⟩ := hv2 hback
    exact ⟨t, g, [p, (BS w gs p x y).1, (BS w gs p x y).2], rfl, kt4.tup _ _ et, SqT.of (kt4.tup _ _ (hw2.bch.tup kp e2)), by simp only [List.length_cons, List.length_nil]; lia, fin⟩
theorem Ry : AO ["_law_script", "_law_cell"] ["_law_script"] (AG RN) := by walk_at "SC"
noncomputable def Ow (K : PySem.W.Frag) : Sp := fun vs H Q _ => ∃ (a : Addr) (ns : List Int), vs = [.ref a] ∧ SqL K H a (ns.map V.int) ∧ ∀ H' v, AI H H' → Q (.int v) H'
theorem Rn (T : Tx K mg) : Ao P w K mg base CX0 2 T.UG T.RQ ["_law_script"] (Ow K) := by
 refine T.Qw.F.ok Ry (fun vs H Q E h => ?_) (fun cdv A outer s H vs Q E hr h => ?_)
 ·obtain ⟨a, ns, rfl, hS, k⟩ := h
  rfl
 ·obtain ⟨a, ns, rfl, hS, k⟩ := h
  have hu := Ad hr
  refine ⟨_, (AD (pst 1 Ry (pcl T.Mf (Kr T) hr AW (AA (pv 0) (AA AB AC))))
   (AE (AH (pxi AM (pcl T.CP (CS T) hr AW (AA (pv 1) (AA AB (AA (pec Ay (AF AZ (pv 1) AB) AB) AC)))) AB)))), ?_⟩
  delta Ij DG
  refine ⟨ns, hS, ⟨_, rfl⟩, ⟨_, rfl⟩, fun D H1 xs n1 s1 e1 l1 => ?_⟩
  exact ⟨_, SqL.of e1, _, Av (by lia) (by lia), k _ _ s1⟩
theorem Cr : AO ["_law_beach", "_law_stands", "_law_past", "_law_script", "_law_most", "_law_how_here", "_law_many", "_law_place", "_law_foot", "_law_head", "_law_count"] ["_law_beach", "_law_stands", "_law_past", "_law_script", "_law_most"] (AG OG) := by walk_at "SC"
noncomputable def VL {K : PySem.W.Frag} {mg : Str → Option Value} (T : Tx K mg) : Sp := fun vs H Q _ => ∃ (b S0 P0 D L a : Addr) (ns : List Int) (most : Int), vs = [.ref b, .ref D, .ref L, .ref a, .int most] ∧ Scr K [L, S0, P0] H a (ns.map V.int) ∧ Wd T.AS H b S0 P0 [S0, P0] [] [] D L ∧ 0 ≤ most ∧ most ≤ 40 ∧ ∀ (H' : Hp) (S P : Addr) (ow : List Addr) (gs : List G) (past : List (List G)), Kept [L, S0, P0] H H' (L :: ow) → Wd T.AS H' b S P ow gs past D L → Q (.bl true) H'
theorem VD (T : Tx K mg) : Ao P w K mg base CX0 6 T.SM T.QN ["_law_beach", "_law_stands", "_law_past", "_law_script", "_law_most"] (VL T) := by
 refine T.SC.F.ok Cr (fun vs H Q E h => ?_) (fun cdv A outer s H vs Q E hr h => ?_)
 ·obtain ⟨b, S0, P0, D, L, a, ns, most, rfl, sc, hw, m0, m1, k⟩ := h
  rfl
 ·obtain ⟨b, S0, P0, D, L, a, ns, most, rfl, sc, hw, m0, m1, k⟩ := h
  have hu := Ad hr
  refine ⟨_, (AD (pst 5 Cr (AF Bx (pcl T.Qw (Rn T) hr AW (AA (pv 3) AC)) AB))
   (AD (pst 6 Cr (pxi AM (Ae (AA (AF AZ (AF Bx (pv 5) AB) (AF Ak (pv 4) AB)) (AA AB (AA (AF AZ (AF Bx (pv 5) AB) AB) (AA (pv 4) AC))))) (AF AZ (pv 5) AB)))
   (AD (BA PassesOwn.never rfl (BL (pcl T.QY (Ta T) hr AW (AA (pv 3) (AA AB (AA (pv 6) AC))))) (Et (n := 3) rfl (Am (pgn 7 Cr) (Am (pgn 8 Cr) (Am (pgn 9 Cr) Ch))))
    (AE (AY (B0 (Bd (pcl T.LF (MF T) hr AW (AA (pv 0) (AA (pv 1) (AA (pv 2) (AA (Ai (AA AX (AA (pv 7) (AA (pv 8) (AA (pv 9) AC))))) AC))))))) (AE (AH BD))
      AL)))
   (BY (AY (Dm (ptc Ay (AF AZ (AF Bx (pv 5) AB) AB) AB) (Ca (ptc Cq (pv 6) AB))).pt (AE (BA PassesOwn.never rfl (CG (by rfl) T.CM (AA (AF Al (AF Ak AB (AF AZ (AF Bx (pv 5) AB) AB)) (pv 6)) AC)) (pgn 10 Cr)
      (AE (AY (B0 (Bd (pcl T.LF (MF T) hr AW (AA (pv 0) (AA (pv 1) (AA (pv 2) (AA (Ai (AA AX (AA (pxi AM (AJ (B9 (by rfl)) (by rfl) T.Bh BN (AA (pv 1) AC)) AB) (AA AB (AA AB AC))))) AC))))))) (AE (AH BD))
        AL))))
    AL)
   (AE (AH BD)))))), ?_⟩
  walk_at "Q"
  delta Ow
  refine ⟨⟨_, sc.sq⟩, fun H1 v s1 => ?_⟩
  walk_at "NX"
  walk_at "Q"
  walk_at "RD"
  refine ⟨by lia, by decide, fun z H2 n2 s2 e2 => ?_⟩
  obtain ⟨m, hm, hm0, hm1⟩ : ∃ m : Int, atI [V.int (v / 40 / 4 % (most + 1)), V.int 0, V.int (v / 40 / 4 % 8), V.int most] (v / 40 % 4) = some (V.int m) ∧ 0 ≤ m ∧ m ≤ 40 := by
   obtain ⟨m, hm, h⟩ := atL4 (x := v / 40 / 4 % (most + 1)) (y := 0) (z := v / 40 / 4 % 8) (t := most) (e := v / 40 % 4) (by lia) (by lia)
   have q1 := Int.emod_nonneg (v / 40 / 4) (show most + 1 ≠ 0 by lia)
   have q2 := Int.emod_lt_of_pos (v / 40 / 4) (show 0 < most + 1 by lia)
   exact ⟨m, hm, by lia, by lia⟩
  have s12 := s1.trans s2
  have hw2 := hw.same s12
  have lv2 : ∀ c ∈ [L, S0, P0], ∃ u, H2 c = some u := fun c hc => by
   simp at hc
   rcases hc with rfl | rfl | rfl
   ·obtain ⟨xs, e, _⟩ := hw2.plen
    exact ⟨_, e⟩
   ·exact (let ⟨_, z⟩ := hw2.bch.lv c (by simp); ⟨_, z⟩)
   ·exact (let ⟨_, z⟩ := hw2.bch.lv c (by simp); ⟨_, z⟩)
  refine ⟨_, SqL.of e2, _, hm, ?_⟩
  walk_at "NX"
  refine ⟨_, rfl, _, rfl, a, 1, m, ns, rfl, s12.seq sc.sq, by decide, by decide, hm0, by lia, fun GL H3 as gs nG s3 eG ga lg ok nd => ⟨GL, rfl, ⟨_, SqL.of eG⟩, ?_⟩⟩
  have oG : GL ∉ [L, S0, P0] := fun z => by
   obtain ⟨u, hu⟩ := lv2 GL z
   rw [nG] at hu; cases hu
  have s13 := s12.trans s3
  have k03 : Kept [L, S0, P0] H H3 [L, S0, P0] := Kept.of s13
  have las := ga.len
  refine Ci (xs := as.map V.ref) (fun i σ H' => ∃ (o7 o8 o9 : Option V) (S P : Addr) (ow : List Addr) (G0 : List G) (past : List (List G)), σ = [some (.ref b), some (.ref D), some (.ref L), some (.ref a), some (.int most), some (.int (v / 40)), some (.int m), o7, o8, o9, none] ∧ Kept [L, S0, P0] H3 H' (L :: ow) ∧ Wd T.AS H' b S P ow G0 past D L ∧ G0.Perm (gs.take i) ∧ past.length = i) ⟨none, none, none, S0, P0, _, [], [], rfl, Kept.refl, hw.same s13, List.Perm.refl _, rfl⟩ (fun _ _ _ _ ⟨_, _, _, _, _, _, _, _, _, kt, _⟩ => SqL.of (kt.lst _ _ oG eG)) ?_ ?_
  ·rintro i v' σ H4 hx ⟨o7, o8, o9, S, P, ow, G0, past, rfl, kt, hw4, pm, hpl⟩
   have hi : i < gs.length := by
    have := (List.getElem?_eq_some_iff.mp hx).1
    rw [List.length_map] at this
    lia
   obtain ⟨ai, hai, ti'⟩ := ga.get (List.getElem?_eq_getElem hi)
   have ex : v' = V.ref ai := by
    rw [List.getElem?_map, hai] at hx
    exact (Option.some.inj hx).symm
   subst ex
   have ti := kt.tup _ _ ti'
   obtain ⟨fp1, fp2⟩ := V8 pm hi nd (by lia) ok (past := past) (by lia)
   generalize gs[i] = g at *
   delta Kx EJ La
   refine ⟨_, SqT.of ti, rfl, _, _, rfl, _, _, rfl, _, _, rfl, rfl, by decide, fun q H5 n5 s5 e5 => ?_⟩
   have fp1' := (MB (w := "put") rfl).trans fp1
   refine ⟨b, S, P, ow, G0, past, D, L, q, "put", g.p, g.f, g.h, rfl, SqT.of e5, hw4.same s5, .put rfl, fun H6 S' P' ow' hw6 kt6 => ⟨true, rfl, ?_⟩⟩
   rw [Tb fp1', FL (by decide) (by decide), Fa (by decide), MD rfl] at hw6
   rw [if_neg (by simp)]
   exact ⟨⟨_, rfl⟩, ⟨_, rfl⟩, ⟨_, rfl⟩, S', P', ow', (kt.same s5).trans kt6, _, _, hw6, fp2, by rw [List.length_append, hpl]; rfl⟩
  rintro σ H4 ⟨o7, o8, o9, S, P, ow, G0, past, rfl, kt, hw4, pm, hpl⟩
  rw [List.length_map, las, List.take_length] at pm
  refine ⟨fun σ' H' => ∃ (o10 : Option V) (S P : Addr) (ow : List Addr) (G0 : List G) (past : List (List G)), σ' = [some (.ref b), some (.ref D), some (.ref L), some (.ref a), some (.int most), some (.int (v / 40)), some (.int m), o7, o8, o9, o10] ∧ Kept [L, S0, P0] H3 H' (L :: ow) ∧ Wd T.AS H' b S P ow G0 past D L, ?_, ?_⟩
  ·walk_at "RD"
   by_cases hc : v / 40 / 4 % 9 = 1
   ·rw [if_pos (decide_eq_true hc)]
    by_cases hc2 : 0 < m
    ·rw [if_pos (decide_eq_true hc2)]
     have hne : G0 ≠ [] := fun z => by
      rw [z] at pm
      have := pm.length_eq
      simp at this
      lia
     refine ⟨_, rfl, _, _, rfl, rfl, (show (0 : Int) < 36 ∧ (36 : Int) < 1073741824 by decide), _, _, rfl, rfl, (show (0 : Int) < 11 by decide), _, _, rfl, rfl, _, rfl, _, _, rfl, rfl, _, rfl, by lia, by lia, BV (fun i σ H' => ∃ (o10 : Option V) (S P : Addr) (ow : List Addr) (G0 : List G) (past : List (List G)), σ = [some (.ref b), some (.ref D), some (.ref L), some (.ref a), some (.int most), some (.int (v / 40)), some (.int m), o7, o8, o9, o10] ∧ Kept [L, S0, P0] H3 H' (L :: ow) ∧ Wd T.AS H' b S P ow G0 past D L ∧ G0 ≠ []) ⟨none, S, P, ow, G0, past, rfl, kt, hw4, hne⟩ ?_ ?_⟩
     ·rintro i σ H5 hi ⟨o10, S, P, ow, G0, past, rfl, kt, hw5, hne⟩
      obtain ⟨kvs, ks, eD, e2, lk, lkv, l64⟩ := Yn (K := K) hw5.dk hw5.bch.std.len
      have hpos : 0 < G0.length := List.length_pos_iff.mpr hne
      delta MA
      refine ⟨kvs, eD, ks, e2, l64, fun Ds Hs ks' ns' ss es pm' so => ?_⟩
      have lks := pm'.length_eq
      refine ⟨_, SqL.of es, _, Av (by lia) (by lia), by decide, fun q H6 n6 s6 e6 => ?_⟩
      refine ⟨b, S, P, ow, G0, past, D, L, q, "lift", _, 0, 0, rfl, SqT.of e6, hw5.same (ss.trans s6), .lift rfl, fun H7 S' P' ow' hw7 kt7 => ⟨true, rfl, ?_⟩⟩
      rw [if_neg (by simp)]
      exact ⟨⟨_, rfl⟩, S', P', ow', ((kt.same ss).same s6).trans kt7, _, ⟨_, hw7⟩, WR hne⟩
     ·rintro σ H5 ⟨o10, S, P, ow, G0, past, rfl, kt, hw5, hne⟩
      exact ⟨⟨_, rfl⟩, S, P, ow, kt, _, _, hw5⟩
    ·rw [if_neg (fun z => hc2 (of_decide_eq_true z))]
     exact ⟨⟨_, rfl⟩, S, P, ow, kt, _, _, hw4⟩
   ·rw [if_neg (fun z => hc (of_decide_eq_true z))]
    exact ⟨⟨_, rfl⟩, S, P, ow, kt, _, _, hw4⟩
  rintro σ' H5 ⟨o10, S, P, ow, G0, past, rfl, kt, hw5⟩
  walk_at "RD"
  exact k H5 S P ow G0 past (k03.trans kt) hw5
theorem VI : AO ["_law_draw"] ["_law_draw"] (AG Nr) := by walk_at "SC"
noncomputable def Fi (K : PySem.W.Frag) : Sp := fun vs H Q _ => ∃ d : Int, vs = [.int d] ∧ ∀ H' v, AI H H' → Q (.int v) H'
theorem IX (T : Tx K mg) : Ao P w K mg base CX0 1 T.RV T.Qf ["_law_draw"] (Fi K) := by
 refine T.IK.F.ok VI (fun vs H Q E h => ?_) (fun cdv A outer s H vs Q E hr h => ?_)
 ·obtain ⟨d, rfl, k⟩ := h
  rfl
 ·obtain ⟨d, rfl, k⟩ := h
  have hu := Ad hr
  refine ⟨_, (AE (AH (pxi AM (Ae (AA (Co Bv AB) (AA (Co Bv AB) (AA (Co Bv AB) (AA AB (AA AB (AA AB (AA AB (AA (AF RI AB AB) (AA (Co Bv (AF RI AB AB)) AC)))))))))) (AF AZ (pv 0) AB)))), ?_⟩
  walk_at "RD"
  refine ⟨by decide, fun D H1 n1 s1 e1 => ?_⟩
  exact ⟨_, SqL.of e1, _, Av (xs := [-1001, -1000, -999, 0, 999, 1000, 1001, 1000000000000000000000000000000, -1000000000000000000000000000000]) (by lia) (by simp only [List.length_cons, List.length_nil]; lia), k _ _ s1⟩
theorem A6 : AO ["_law_script", "_law_k", "_law_stands", "_law_past", "_law_how_here", "_law_mixed", "_law_row", "_law_word", "_law_pool", "_law_place", "_law_many", "_law_kind", "_law_one", "_law_two", "_law_line", "_law_any_two", "_law_foot", "_law_head"] ["_law_script", "_law_k", "_law_stands", "_law_past"] (AG Nu) := by walk_at "SC"
theorem deedW {e : Int} (h1 : 0 ≤ e) (h2 : e < 7) : ∃ w, atI [V.str "put", V.str "put", V.str "put", V.str "lift", V.str "sink", V.str "take", V.str "back"] e = some (V.str w) ∧ Wrd w := by
 rcases (show e = 0 ∨ e = 1 ∨ e = 2 ∨ e = 3 ∨ e = 4 ∨ e = 5 ∨ e = 6 by lia) with rfl | rfl | rfl | rfl | rfl | rfl | rfl
 ·exact ⟨_, rfl, .put rfl⟩
 ·exact ⟨_, rfl, .put rfl⟩
 ·exact ⟨_, rfl, .put rfl⟩
 ·exact ⟨_, rfl, .lift rfl⟩
 ·exact ⟨_, rfl, .sink rfl⟩
 ·exact ⟨_, rfl, .take rfl⟩
 ·exact ⟨_, rfl, .back rfl⟩
noncomputable def Uv (K : PySem.W.Frag) : Sp := fun vs H Q _ => ∃ (a : Addr) (k : Int) (ns : List Int) (D L : Addr) (gs : List G) (xs : List V), vs = [.ref a, .int k, .ref D, .ref L] ∧ SqL K H a (ns.map V.int) ∧ 0 ≤ k ∧ k < ns.length ∧ ns.length ≤ 63 ∧ A3 H D gs ∧ gs.length ≤ 40 ∧ H L = some (.lst xs) ∧ ∀ (D : Addr) (H' : Hp) (w : Str) (p x y : Int), H D = none → AI H H' → H' D = some (.tup [.str w, .int p, .int x, .int y]) → Wrd w → Q (.ref D) H'
theorem U2 (T : Tx K mg) : Ao P w K mg base CX0 3 T.Ro T.QQ ["_law_script", "_law_k", "_law_stands", "_law_past"] (Uv K) := by
 refine T.RY.F.ok A6 (fun vs H Q E h => ?_) (fun cdv A outer s H vs Q E hr h => ?_)
 ·obtain ⟨a, k0, ns, D, L, gs, xs, rfl, hS, h0, h1, h63, hd, l40, eL, k⟩ := h
  rfl
 ·obtain ⟨a, k0, ns, D, L, gs, xs, rfl, hS, h0, h1, h63, hd, l40, eL, k⟩ := h
  have hu := Ad hr
  refine ⟨_, (AD (pst 4 A6 (pcl T.Qw (Rn T) hr AW (AA (pv 0) AC)))
   (AD (pst 5 A6 (pec Ay (AF AZ (pxi AM (pv 0) AB) AB) AB))
   (AD (pst 6 A6 (pcl T.CP (CS T) hr AW (AA (pxi AM (Ae (AA (pxi AM (pv 0) (pv 1)) (AA (AF Ak (pxi AM (pv 0) (pv 1)) (AF Hc AB (pv 1))) AC))) (Bs Mo (by rfl) T.T4 Q9 (AA (pv 5) AC))) (AA AB (AA (pv 5) AC)))))
   (BY (pst 7 A6 (pxi AM (Ae (AA AX (AA AX (AA AX (AA AX (AA AX (AA AX (AA AX AC)))))))) (AF AZ (pxi AM (pv 6) AB) AB)))
   (AD (pst 8 A6 (pxi AM (Ae (AA AB (AA AB (AA AB (AA AB AC))))) (AF AZ (AF Bx (pv 4) AB) AB)))
   (AD (pst 9 A6 (AF Al (AF AZ (pxi AM (pv 6) AB) (pv 8)) (AF Bx (pv 8) AB)))
   (BY (AY (Dm (ptc Ay (AF AZ (pxi AM (pv 6) AB) AB) AB) (Ca (ptc Cq (AJ Di (by rfl) T.Az Ap (AA (pv 2) AC)) AB))).pt (AE (pst 9 A6 (pxi AM (AJ (B9 (by rfl)) (by rfl) T.Bh BN (AA (pv 2) AC)) (AF AZ (pxi AM (pv 6) AB) (AJ Di (by rfl) T.Az Ap (AA (pv 2) AC))))))
    AL)
   (AD (AY (ptc Ay (pv 7) AX) (AD (pst 10 A6 (pxi AM (Ae (AA AB (AA AB (AA (AF Ak AB (AF AZ (pxi AM (pv 6) AB) AB)) (AA (AJ AT (by rfl) T.Az Ap (AA (pv 3) AC)) (AA (AF Ak (AJ AT (by rfl) T.Az Ap (AA (pv 3) AC)) AB) (AA AB (AA (Co Bv AB) (AA (AF RI AB AB) AC))))))))) (AF AZ (pxi AM (pv 6) AB) AB)))
     (AE (AH (Ai (AA (pv 7) (AA (pv 10) (AA (AF AZ (pxi AM (pv 6) AB) AB) (AA AB AC))))))))
    AL)
   (BY (pst 11 A6 (AF AZ (AF Bx (pxi AM (pv 6) AB) AB) AB))
   (AD (AY (ptc Dq (pv 7) AX) (BY (pst 12 A6 (pxi AM (Ae (AA (AF Al (AF AZ (pxi AM (pv 6) AB) AB) AB) (AA (AF Al (AF AZ (pxi AM (pv 6) AB) AB) AB) (AA AB (AA (AF Al (AF AZ (pxi AM (pv 6) AB) AB) AB) (AA (pcl T.IK (IX T) hr AW (AA (pxi AM (pv 6) AB) AC)) (AA AB AC))))))) (pv 11)))
     (AD (pst 13 A6 (pxi AM (Ae (AA (pv 12) (AA (AF Al (AF AZ (pxi AM (pv 6) AB) AB) AB) (AA (AF AZ (pxi AM (pv 6) AB) AB) (AA (AF Al (AF AZ (pxi AM (pv 6) AB) AB) AB) (AA (pcl T.IK (IX T) hr AW (AA (pxi AM (pv 6) AB) AC)) (AA AB AC))))))) (pv 11)))
     (AE (AH (Ai (AA (pv 7) (AA (pv 9) (AA (pv 12) (AA (pv 13) AC)))))))))
    AL)
   (AD (pst 14 A6 (AF Hc (pv 9) (AF Al (AF AZ (AF Bx (pv 4) AB) AB) AB)))
   (BY (pst 15 A6 (Ae (AA (AF Al (AF AZ (pxi AM (pv 6) AB) AB) AB) (AA (AF Al (AF AZ (pxi AM (pv 6) AB) AB) AB) AC))))
   (BY (pst 16 A6 (pxi AM (Ae (AA (pxi AM (pv 15) AB) (AA (AF Al (AF AZ (pxi AM (pv 6) AB) AB) AB) (AA (AF Al (pv 14) (AF AZ (pxi AM (pv 6) AB) AB)) (AA (pv 14) (AA (pcl T.IK (IX T) hr AW (AA (pxi AM (pv 6) AB) AC)) (AA (pxi AM (pv 15) AB) AC))))))) (pv 11)))
   (AD (pst 17 A6 (pxi AM (Ae (AA (AF Al (AF Ak (pv 16) (AF AZ (pxi AM (pv 6) AB) AB)) AB) (AA (AF Al (AF Ak (pv 16) (AF AZ (pxi AM (pv 6) AB) AB)) AB) (AA (AF Ak (pv 14) (AF AZ (pxi AM (pv 6) AB) AB)) (AA (pv 14) (AA (pcl T.IK (IX T) hr AW (AA (pxi AM (pv 6) AB) AC)) (AA (pxi AM (pv 15) AB) AC))))))) (pv 11)))
   (AE (AH (Ai (AA (pv 7) (AA (pv 9) (AA (pv 16) (AA (pv 17) AC))))))))))))))))))))), ?_⟩
  walk_at "Q"
  delta Ow
  refine ⟨⟨_, hS⟩, fun H1 v s1 => ?_⟩
  walk_at "NX"
  have hS1 := s1.seq hS
  have hn : 0 < ns.length := by lia
  walk_at "Q"
  walk_at "RD"
  refine ⟨_, hS1, _, Av (by lia) (by lia), _, rfl, ?_⟩
  walk_at "NX"
  generalize ns.getD (Int.toNat 0) 0 = c0 at *
  generalize decide (c0 % 2 = 0) = mx at *
  walk_at "Q"
  walk_at "RD"
  refine ⟨_, hS1, _, Av (by lia) (by lia), _, hS1, _, Av (by lia) (by lia), _, rfl, by decide, fun z1 H2 n2 s2 e2 => ?_⟩
  generalize ns.getD k0.toNat 0 = ck at *
  refine ⟨_, SqL.of e2, _, Av (xs := [ck, ck + 977 * k0]) (by split <;> lia) (by simp only [List.length_cons, List.length_nil]; split <;> lia), ?_⟩
  refine ⟨_, 5, _, rfl, by decide, by decide, fun R H3 rs n3 s3 e3 l3 => ?_⟩
  walk_at "NX"
  have s13 := s1.trans (s2.trans s3)
  refine ⟨fun σ' H' => ∃ w, σ' = [some (.ref a), some (.int k0), some (.ref D), some (.ref L), some (.int v), some (.bl mx), some (.ref R), some (.str w), none, none, none, none, none, none, none, none, none, none] ∧ AI H3 H' ∧ Wrd w, ?_, ?_⟩
  ·walk_at "RD"
   refine ⟨by decide, fun z2 H4 n4 s4 e4 => ?_⟩
   obtain ⟨w, hw, wd⟩ := deedW (e := rs.getD 0 0 % 7) (by lia) (by lia)
   exact ⟨_, SqL.of (s4.get e3), _, Av (by lia) (by lia), _, rfl, _, SqL.of e4, _, hw, _, rfl, s4, wd⟩
  rintro σ' H4 ⟨w, rfl, s4, wd⟩
  have s14 := s13.trans s4
  have e34 := s4.get e3
  clear s1 s2 s3 s4 s13 e2 e3 n2 n3
  walk_at "Q"
  walk_at "RD"
  refine ⟨by decide, fun z3 H5 n5 s5 e5 => ?_⟩
  obtain ⟨pool, hpool, hp2⟩ := atL4 (x := 5) (y := 13) (z := 45) (t := 2003) (e := v / 2 % 4) (by lia) (by lia)
  have hp3 : 0 < pool := by lia
  have e35 := s5.get e34
  refine ⟨_, SqL.of e5, _, hpool, ?_⟩
  walk_at "NX"
  walk_at "Q"
  walk_at "RD"
  refine ⟨_, SqL.of e35, _, Av (by lia) (by lia), _, rfl, by lia, ?_⟩
  walk_at "NX"
  refine ⟨fun σ' H' => ∃ pl : Int, σ' = [some (.ref a), some (.int k0), some (.ref D), some (.ref L), some (.int v), some (.bl mx), some (.ref R), some (.str w), some (.int pool), some (.int pl), none, none, none, none, none, none, none, none] ∧ AI H5 H', ?_, ?_⟩
  ·delta MA
   have hd5 := hd.same (s14.trans s5)
   obtain ⟨kvs, ks, eD, e2, pm, _⟩ := hd5.at_
   have lk := pm.length_eq
   rw [List.length_map] at lk
   have lkv : kvs.length = ks.length := by have := congrArg List.length e2; simpa using this
   refine ⟨_, SqL.of e35, _, Av (by lia) (by lia), _, rfl, ?_⟩
   by_cases hc : rs.getD (Int.toNat 4) 0 % 2 = 1
   ·rw [if_pos (decide_eq_true hc)]
    refine ⟨kvs, eD, ?_⟩
    by_cases h0 : 0 < kvs.length
    ·rw [if_pos (decide_eq_true (by lia))]
     refine ⟨kvs, eD, ks, e2, by lia, fun Ds Hs ks' ns' ss es pm' so => ?_⟩
     have lks := pm'.length_eq
     have q1 := Int.emod_nonneg (rs.getD (Int.toNat 1) 0) (show (kvs.length : Int) ≠ 0 by lia)
     have q2 := Int.emod_lt_of_pos (rs.getD (Int.toNat 1) 0) (show (0 : Int) < kvs.length by lia)
     exact ⟨_, SqL.of (ss.get e35), _, Av (by lia) (by lia), kvs, ss.get eD, _, rfl, by lia, _, SqL.of es, _, Av q1 (by lia), ⟨_, rfl⟩, ss⟩
    ·rw [if_neg (fun z => h0 (by have := of_decide_eq_true z; lia))]
     exact ⟨⟨_, rfl⟩, AI.refl _⟩
   ·rw [if_neg (fun z => hc (of_decide_eq_true z))]
    exact ⟨⟨_, rfl⟩, AI.refl _⟩
  rintro σ' H6 ⟨pl, rfl, s6⟩
  have s16 := s14.trans (s5.trans s6)
  have e36 := s6.get e35
  have eL6 := s16.get eL
  clear s14 s5 s6 e34 e35 e5 n5
  walk_at "Q"
  walk_at "RD"
  by_cases hb : w = "back"
  ·rw [if_pos (decide_eq_true hb)]
   refine ⟨_, SqL.of e36, _, Av (by lia) (by lia), _, rfl, _, .inl (SqL.of eL6), _, .inl (SqL.of eL6), by decide, fun z7 H7 n7 s7 e7 => ?_⟩
   have e37 := s7.get e36
   refine ⟨_, SqL.of e37, _, Av (by lia) (by lia), _, rfl, _, SqL.of e7, Qb rfl (by lia) (by simp only [List.length_cons, List.length_nil]; lia) fun m => ?_⟩
   exact ⟨_, SqL.of e37, _, Av (by lia) (by lia), _, rfl, by decide, fun D8 H8 n8 s8 e8 => k D8 H8 w _ _ _ (s16.free (s7.free n8)) (s16.trans (s7.trans s8)) e8 wd⟩
  rw [if_neg (fun z => hb (of_decide_eq_true z))]
  walk_at "NX"
  refine ⟨fun σ' H' => ∃ kd : Int, σ' = [some (.ref a), some (.int k0), some (.ref D), some (.ref L), some (.int v), some (.bl mx), some (.ref R), some (.str w), some (.int pool), some (.int pl), none, some (.int kd), none, none, none, none, none, none] ∧ H' = H6 ∧ 0 ≤ kd ∧ kd < 6, ?_, ?_⟩
  ·walk_at "RD"
   exact ⟨_, SqL.of e36, _, Av (by lia) (by lia), _, rfl, by lia, by lia⟩
  rintro σ' H7 ⟨kd, rfl, rfl, k0', k6⟩
  walk_at "Q"
  walk_at "RD"
  by_cases hp : w = "put"
  ·rw [if_neg (by simp [hp])]
   walk_at "NX"
   walk_at "RD"
   refine ⟨.inr ⟨by lia, by lia⟩, ?_⟩
   generalize pl * (v / 8 % 5 - 2) = ln at *
   refine ⟨fun σ' H' => ∃ A u1 u2, σ' = [some (.ref a), some (.int k0), some (.ref D), some (.ref L), some (.int v), some (.bl mx), some (.ref R), some (.str w), some (.int pool), some (.int pl), none, some (.int kd), none, none, some (.int ln), some (.ref A), none, none] ∧ AI H7 H' ∧ H' A = some (.lst [.int u1, .int u2]), ?_, ?_⟩
   ·walk_at "RD"
    walk_at "AUTO"
    exact ⟨_, _, he⟩
   rintro σ' H8 ⟨A, u1, u2, rfl, s8, e8⟩
   have e38 := s8.get e36
   refine ⟨fun σ' H' => ∃ ft : Int, σ' = [some (.ref a), some (.int k0), some (.ref D), some (.ref L), some (.int v), some (.bl mx), some (.ref R), some (.str w), some (.int pool), some (.int pl), none, some (.int kd), none, none, some (.int ln), some (.ref A), some (.int ft), none] ∧ AI H8 H', ?_, ?_⟩
   ·delta Fi
    walk_at "AUTO"
    intro H' v s'
    exact ⟨_, SqL.of (s'.get e8), _, rfl, by decide, fun p H2 n2 s2 e2 => ⟨_, SqL.of e2, Qb rfl (by lia) (by simp only [List.length_cons, List.length_nil]; lia) fun i => ⟨⟨_, rfl⟩, s'.trans s2⟩⟩⟩
   rintro σ' H9 ⟨ft, rfl, s9⟩
   have e39 := s9.get e38
   have e89 := s9.get e8
   have s19 := s16.trans (s8.trans s9)
   delta Fi
   walk_at "AUTO"
   intro H' v s'
   exact ⟨_, SqL.of (s'.get e89), _, rfl, by decide, fun p H2 n2 s2 e2 => ⟨_, SqL.of e2, Qb rfl (by lia) (by simp only [List.length_cons, List.length_nil]; lia) fun i => ⟨by decide, fun D8 H8 n8 s8 e8 => k D8 H8 w _ _ _ (s19.free (s'.free (s2.free n8))) (s19.trans (s'.trans (s2.trans s8))) e8 wd⟩⟩⟩
  ·rw [if_pos (by simp [hp])]
   refine ⟨fun σ' H' => ∃ on : Int, σ' = [some (.ref a), some (.int k0), some (.ref D), some (.ref L), some (.int v), some (.bl mx), some (.ref R), some (.str w), some (.int pool), some (.int pl), none, some (.int kd), some (.int on), none, none, none, none, none] ∧ AI H7 H', ?_, ?_⟩
   ·delta Fi
    walk_at "AUTO"
    intro H' v s'
    exact ⟨by decide, fun p H2 n2 s2 e2 => ⟨_, SqL.of e2, Qb rfl (by lia) (by simp only [List.length_cons, List.length_nil]; lia) fun i => ⟨⟨_, rfl⟩, s'.trans s2⟩⟩⟩
   rintro σ' H9 ⟨ft, rfl, s9⟩
   have e39 := s9.get e36
   have s19 := s16.trans s9
   delta Fi
   walk_at "AUTO"
   intro H' v s'
   exact ⟨by decide, fun p H2 n2 s2 e2 => ⟨_, SqL.of e2, Qb rfl (by lia) (by simp only [List.length_cons, List.length_nil]; lia) fun i => ⟨by decide, fun D8 H8 n8 s8 e8 => k D8 H8 w _ _ _ (s19.free (s'.free (s2.free n8))) (s19.trans (s'.trans (s2.trans s8))) e8 wd⟩⟩⟩
theorem Ba : AO ["_law_script", "_law_k", "_law_stands", "_law_most", "_law_mixed", "_law_row", "_law_chosen", "_law_j", "_law_place"] ["_law_script", "_law_k", "_law_stands", "_law_most"] (AG Kb) := by walk_at "SC"
noncomputable def RT (K : PySem.W.Frag) : Sp := fun vs H Q _ => ∃ (a : Addr) (k : Int) (ns : List Int) (D : Addr) (gs : List G) (most : Nat), vs = [.ref a, .int k, .ref D, .int most] ∧ SqL K H a (ns.map V.int) ∧ 0 ≤ k ∧ k < ns.length ∧ ns.length ≤ 63 ∧ A3 H D gs ∧ Std gs ∧ gs ≠ [] ∧ 0 < most ∧ most ≤ 40 ∧ ∀ (R : Addr) (H' : Hp) (ps : List Int), AI H H' → H' R = some (.lst (ps.map V.int)) → ps ≠ [] → ps.Nodup → ps.length ≤ most → (∀ p ∈ ps, p ∈ AU gs) → Q (.ref R) H'
theorem SZ (T : Tx K mg) : Ao P w K mg base CX0 2 T.Nv T.M3 ["_law_script", "_law_k", "_law_stands", "_law_most"] (RT K) := by
 refine T.Nh.F.ok Ba (fun vs H Q E h => ?_) (fun cdv A outer s H vs Q E hr h => ?_)
 ·obtain ⟨a, k0, ns, D, gs, most, rfl, hS, h0, h1, h63, hd, sd, ne, m0, m40, k⟩ := h
  rfl
 ·obtain ⟨a, k0, ns, D, gs, most, rfl, hS, h0, h1, h63, hd, sd, ne, m0, m40, k⟩ := h
  have hu := Ad hr
  refine ⟨_, (AD (pst 4 Ba (pec Ay (AF AZ (pxi AM (pv 0) AB) AB) AB))
   (BY (pst 5 Ba (pcl T.CP (CS T) hr AW (AA (pxi AM (Ae (AA (AF Wn (pxi AM (pv 0) (pv 1)) (AF RI AB AB)) (AA (AF Ak (pxi AM (pv 0) (pv 1)) (AF Hc AB (pv 1))) AC))) (Bs Mo (by rfl) T.T4 Q9 (AA (pv 4) AC))) (AA (AF Ak (AJ Di (by rfl) T.Az Ap (AA (pv 2) AC)) AB) (AA (pv 4) AC)))))
   (AD (pst 6 Ba (Ae AC))
   (AD (BA PassesOwn.never rfl (Q6 (by rfl) T.HQ (AA (AJ (B9 (by rfl)) (by rfl) T.Bh BN (AA (pv 2) AC)) AC)) (Et (n := 2) rfl (Am (pgn 7 Ba) (Am (pgn 8 Ba) Ch)))
    (BY (AY (ptc Ay (AF AZ (pxi AM (pv 5) (pv 7)) AB) AB) (AE (pst 6 Ba (AF Lw (pv 6) (Ae (AA (pv 8) AC)))))
      AL)
     (AE (AY (ptc Ay (AF AZ (pxi AM (pv 5) (pv 7)) AB) AB) (AE (pst 6 Ba (AF Lw (Ae (AA (pv 8) AC)) (pv 6))))
      AL))))
   (BY (AY (ptc (T5 (Nat.lt_of_succ_lt hu)) (pv 6) (Ae AC)) (AE (pst 6 Ba (FY FV (AJ (B9 (by rfl)) (by rfl) T.Bh BN (AA (pv 2) AC)) IZ (IT (AF Ak AB (AF AZ (pxi AM (pv 5) (AJ Di (by rfl) T.Az Ap (AA (pv 2) AC))) AB))))))
    AL)
   (AE (AH (FY FV (pv 6) IZ (IT (pv 3)))))))))), ?_⟩
  have l40 := sd.len
  obtain ⟨kvs, eD, lD⟩ := hd.len
  walk_at "RD"
  refine ⟨_, hS, _, Av (by lia) (by lia), _, rfl, ?_⟩
  generalize decide (ns.getD (Int.toNat 0) 0 % 2 = 0) = mx at *
  refine ⟨fun σ' H' => ∃ Dr rs, σ' = [some (.ref a), some (.int k0), some (.ref D), some (.int most), some (.bl mx), some (.ref Dr), none, none, none] ∧ AI H H' ∧ H' Dr = some (.lst (List.map V.int rs)) ∧ rs.length = gs.length + 1, ?_, ?_⟩
  ·walk_at "RD"
   refine ⟨_, hS, _, Av (by lia) (by lia), by decide, _, rfl, Sm.of (n := 10 ^ 120) (by lia) (by decide +kernel), _, hS, _, Av (by lia) (by lia), _, rfl, by decide, fun z H' n s e => ?_⟩
   refine ⟨_, SqL.of e, Qb rfl (by split <;> lia) (by simp only [List.length_cons, List.length_nil]; split <;> lia) fun v => ?_⟩
   refine ⟨kvs, s.get eD, ?_⟩
   exact ⟨v, _, mx, rfl, by lia, by lia, fun Dr H2 rs n2 s2 e2 l2 => ⟨Dr, rfl, s.trans s2, rs, e2, by lia⟩⟩
  rintro σ' H1 ⟨Dr, rs, rfl, s1, eDr, lrs⟩
  have hd1 := hd.same s1
  walk_at "RD"
  refine ⟨by decide, fun C0 H2 n2 s2 e2 => ?_⟩
  have hd2 := hd1.same s2
  have lpl : (AU gs).length = gs.length := List.length_map ..
  have hnd : (AU gs).Nodup := sd.nd
  refine Uk rfl hd2 sd fun R H3 n3 s3 e3 => ?_
  refine Nn (xs := (AU gs).map V.int) (fun i σ H' => ∃ (o7 o8 : Option V) (C : Addr) (cs : List Int), σ = [some (.ref a), some (.int k0), some (.ref D), some (.int most), some (.bl mx), some (.ref Dr), some (.ref C), o7, o8] ∧ AI H3 H' ∧ H' C = some (.lst (cs.map V.int)) ∧ cs.Nodup ∧ (∀ p ∈ cs, p ∈ (AU gs).take i)) ⟨none, none, C0, [], rfl, AI.refl _, s3.get e2, by simp, by simp⟩ (fun _ _ _ _ ⟨_, _, _, _, _, s, _⟩ => SqL.of (s.get e3)) ?_ ?_
  ·rintro i vv σ H4 pp H5 hx ⟨o7, o8, C, cs, rfl, s4, eC, nd, sub⟩ hn s5 e5
   have hi : i < gs.length := by
    have := (List.getElem?_eq_some_iff.mp hx).1
    rw [List.length_map, lpl] at this
    exact this
   have hi2 : i < (AU gs).length := by lia
   have ex : vv = V.int (AU gs)[i] := by
    rw [List.getElem?_map, List.getElem?_eq_getElem hi2] at hx
    exact (Option.some.inj hx).symm
   subst ex
   have et : (AU gs).take (i + 1) = (AU gs).take i ++ [(AU gs)[i]] := List.take_succ_eq_append_getElem hi2
   have hni : (AU gs)[i] ∉ (AU gs).take i := by
    have := hnd.sublist (List.take_sublist (i + 1) (AU gs))
    rw [et, List.nodup_append] at this
    exact fun z => this.2.2 _ z _ (List.mem_singleton.mpr rfl) rfl
   have eDr5 := s5.get (s4.get (s3.get (s2.get eDr)))
   have ls := Q4 nd sub
   rw [List.length_take] at ls
   generalize (AU gs)[i] = pl at *
   delta Kx EJ La
   refine ⟨_, SqT.of e5, rfl, _, _, rfl, _, _, rfl, rfl, ?_⟩
   refine ⟨fun σ' H' => ∃ (C : Addr) (cs : List Int), σ' = [some (.ref a), some (.int k0), some (.ref D), some (.int most), some (.bl mx), some (.ref Dr), some (.ref C), some (.int i), some (.int pl)] ∧ AI H5 H' ∧ H' C = some (.lst (cs.map V.int)) ∧ cs.Nodup ∧ (∀ p ∈ cs, p ∈ (AU gs).take (i + 1)) ∧ (rs.getD i 0 % 3 = 2 → ∀ p ∈ cs, p ∈ (AU gs).take i), ?_, ?_⟩
   ·walk_at "RD"
    refine ⟨_, SqL.of eDr5, _, Av (by lia) (by lia), _, rfl, ?_⟩
    rw [Int.toNat_natCast]
    by_cases hc : rs.getD i 0 % 3 = 1
    ·rw [if_pos (decide_eq_true hc)]
     refine ⟨by decide, fun z1 H6 n6 s6 e6 => ⟨_, s6.get (s5.get eC), _, e6, by rw [List.length_map, PySem.sizeLine_eq]; simp only [List.length_cons, List.length_nil]; lia, fun z2 H7 n7 s7 e7 => ⟨s6.trans s7, cs ++ [pl], by rw [e7, List.map_append]; rfl, ?_, ?_, fun z => by lia⟩⟩⟩
     ·rw [List.nodup_append]
      exact ⟨nd, by simp, fun x hx y hy e => hni (by rw [List.mem_singleton.mp hy] at e; rw [← e]; exact sub x hx)⟩
     ·intro p hp
      rw [et]
      rcases List.mem_append.mp hp with z | z
      ·exact List.mem_append_left _ (sub p z)
      ·exact List.mem_append_right _ z
    ·rw [if_neg (fun z => hc (of_decide_eq_true z))]
     exact ⟨AI.refl _, cs, s5.get eC, nd, fun p hp => by rw [et]; exact List.mem_append_left _ (sub p hp), fun _ => sub⟩
   rintro σ' H6 ⟨C', cs', rfl, s6, eC', nd', sub', sub2⟩
   walk_at "RD"
   refine ⟨_, SqL.of (s6.get eDr5), _, Av (by lia) (by lia), _, rfl, ?_⟩
   rw [Int.toNat_natCast]
   by_cases hc : rs.getD i 0 % 3 = 2
   ·rw [if_pos (decide_eq_true hc)]
    have sub3 := sub2 hc
    have ls' := Q4 nd' sub3
    rw [List.length_take] at ls'
    refine ⟨by decide, fun z1 H7 n7 s7 e7 => ⟨_, e7, _, s7.get eC', by rw [List.length_map, PySem.sizeLine_eq]; simp only [List.length_cons, List.length_nil]; lia, fun z2 H8 n8 s8 e8 => ⟨⟨_, rfl⟩, ⟨_, rfl⟩, s4.trans (s5.trans (s6.trans (s7.trans s8))), pl :: cs', by rw [e8]; rfl, ?_, ?_⟩⟩⟩
    ·rw [List.nodup_cons]
     exact ⟨fun z => hni (sub3 pl z), nd'⟩
    ·intro p hp
     rw [et]
     rcases List.mem_cons.mp hp with z | z
     ·exact List.mem_append_right _ (List.mem_singleton.mpr z)
     ·exact List.mem_append_left _ (sub3 p z)
   ·rw [if_neg (fun z => hc (of_decide_eq_true z))]
    exact ⟨⟨_, rfl⟩, ⟨_, rfl⟩, s4.trans (s5.trans s6), cs', eC', nd', sub'⟩
  rintro σ H4 ⟨o7, o8, C, cs, rfl, s4, eC, nd, sub⟩
  have s14 := s2.trans (s3.trans s4)
  have eDr4 := s14.get eDr
  have hd4 := hd1.same s14
  rw [List.length_map, List.take_length] at sub
  refine ⟨fun σ' H' => ∃ (C : Addr) (cs : List Int), σ' = [some (.ref a), some (.int k0), some (.ref D), some (.int most), some (.bl mx), some (.ref Dr), some (.ref C), o7, o8] ∧ AI H4 H' ∧ H' C = some (.lst (cs.map V.int)) ∧ cs.Nodup ∧ (∀ p ∈ cs, p ∈ AU gs) ∧ cs ≠ [], ?_, ?_⟩
  ·walk_at "RD"
   refine ⟨by decide, fun z1 H5 n5 s5 e5 => ⟨_, SqL.of (s5.get eC), SqL.of e5, ?_⟩⟩
   have hne : (cs.map V.int = []) ↔ cs = [] := List.map_eq_nil_iff
   by_cases hc : cs = []
   ·rw [if_pos (decide_eq_true (hne.mpr hc))]
    refine Wr (hd4.same s5) sd fun R2 H6 n6 s6 e6 => ?_
    obtain ⟨kv, eD', lD'⟩ := (hd4.same (s5.trans s6)).len
    refine ⟨kv, eD', _, SqL.of (s6.get (s5.get eDr4)), _, Av (by lia) (by lia), _, rfl, R2, rfl, _, SqL.of e6, fun z2 H7 n7 s7 e7 => ?_⟩
    obtain ⟨t, ht, ht1⟩ : ∃ t : Nat, 1 + rs.getD (kv.length : Int).toNat 0 % 3 = (t : Int) ∧ 0 < t := ⟨(1 + rs.getD (kv.length : Int).toNat 0 % 3).toNat, by lia, by lia⟩
    rw [ht, F6, ← List.map_take] at e7
    refine ⟨s5.trans (s6.trans s7), _, e7, hnd.sublist (List.take_sublist _ _), fun p hp => List.mem_of_mem_take hp, fun z => ?_⟩
    have hz := congrArg List.length z
    rw [List.length_take, lpl, List.length_nil] at hz
    have := List.length_pos_iff.mpr ne
    lia
   ·rw [if_neg (fun z => hc (hne.mp (of_decide_eq_true z)))]
    exact ⟨s5, cs, s5.get eC, nd, sub, hc⟩
  rintro σ' H5 ⟨C', cs', rfl, s5, eC', nd', sub', ne'⟩
  walk_at "RD"
  refine ⟨_, SqL.of eC', fun z2 H6 n6 s6 e6 => ?_⟩
  rw [F6, ← List.map_take] at e6
  refine k z2 H6 (cs'.take most) (s1.trans (s14.trans (s5.trans s6))) e6 (fun z => ?_) (nd'.sublist (List.take_sublist _ _)) (by rw [List.length_take]; lia) fun p hp => sub' p (List.mem_of_mem_take hp)
  have hz := congrArg List.length z
  rw [List.length_take, List.length_nil] at hz
  have := List.length_pos_iff.mpr ne'
  lia
theorem SL : AO ["_law_one", "_law_two"] ["_law_one", "_law_two"] (AG Q3) := by walk_at "SC"
noncomputable def K2 : Sp := fun vs H Q _ => ∃ a b : Int, vs = [.int a, .int b] ∧ 0 ≤ a ∧ 0 ≤ b ∧ Q (.int (Int.gcd a b)) H
noncomputable def W_gcd (a b : Int) (H : Hp) : Nat → St → Hp → Prop := fun m σ H' => ∃ (d r : Int), m = r.toNat ∧ σ = [some (.int d), some (.int r)] ∧ H' = H ∧ 0 ≤ d ∧ 0 ≤ r ∧ Int.gcd d r = Int.gcd a b
theorem Wq (T : Tx K mg) : Ao P w K mg base CX0 1 T.T3 T.Rh ["_law_one", "_law_two"] K2 := by
 refine T.Tz.F.ok SL (fun vs H Q E h => ?_) (fun cdv A outer s H vs Q E hr h => ?_)
 ·obtain ⟨a, b, rfl, ha, hb, k⟩ := h
  rfl
 ·obtain ⟨a, b, rfl, ha, hb, k⟩ := h
  have hu := Ad hr
  refine ⟨_, (AD (SW PassesOwn.never (ptc Dq (pv 1) AB)
    (AE (ah (i := 0) (j := 1) (by rfl) SL.nd rfl rfl (by decide) rfl rfl (AA (pv 1) (AA (AF T1 (pv 0) (pv 1)) AC)) (by rfl))))
   (AE (AH (pv 0)))), ?_⟩
  walk_at "RD"
  refine ⟨W_gcd a b H, ⟨_, a, b, rfl, rfl, rfl, ha, hb, rfl⟩, ?_⟩
  rintro m σ H' ⟨d, r, rfl, rfl, rfl, hd, hr', e⟩
  walk_at "RDE"
  by_cases h0 : r = 0
  ·subst h0
   simp only [decide_true, Bool.not_true, Bool.false_eq_true, if_false]
   walk_at "RD"
   rw [← e, Qg hd] at k
   exact k
  ·simp only [h0, decide_false, Bool.not_false, if_true]
   refine ⟨_, fun _ _ h => h, ?_⟩
   walk_at "RD"
   have hp : 0 < r := by lia
   have hf := UJ (d := d) hp
   refine ⟨h0, _, ?_, r, d.fmod r, rfl, rfl, rfl, hr', hf.1, (RU hd hp).trans e⟩
   lia
theorem Kd : AO ["_law_found", "_law_k"] ["_law_found"] (AG Ma) := by walk_at "SC"
noncomputable def Sy (K : PySem.W.Frag) : Sp := fun vs H Q _ => ∃ (q : Addr) (x y z v : Int), vs = [.ref q] ∧ H q = some (.tup [.int x, .int y, .int z, .int v]) ∧ x.natAbs ≤ 999999999 ∧ y.natAbs ≤ 999999999 ∧ z.natAbs ≤ 999999999 ∧ v.natAbs ≤ 999999999 ∧ 0 < y ∧ 0 < v ∧ Int.gcd x y = 1 ∧ Int.gcd z v = 1 ∧ ∀ H', AI H H' → Q (.bl true) H'
noncomputable def X6 (q : Addr) (H : Hp) : Nat → St → Hp → Prop := fun i σ H' => ∃ x, σ = [some (.ref q), x] ∧ H' = H
theorem Ss (T : Tx K mg) : Ao P w K mg base CX0 2 T.P3 T.Nz ["_law_found"] (Sy K) := by
 refine T.QP.F.ok Kd (fun vs H Q E h => ?_) (fun cdv A outer s H vs Q E hr h => ?_)
 ·obtain ⟨q, x, y, z, v, rfl, hq, b1, b2, b3, b4, hy, hv, g1, g2, k⟩ := h
  rfl
 ·obtain ⟨q, x, y, z, v, rfl, hq, b1, b2, b3, b4, hy, hv, g1, g2, k⟩ := h
  have hu := Ad hr
  refine ⟨_, (AD (AY (EW (B0 (Bd (AJ CU (by rfl) T.CF Br (AA (pv 0) (AA (Ia (v := .ty "tuple") (by rfl) T.RO N7 rfl) AC))))) (C1 (ptc Dq (AJ AT (by rfl) T.Az Ap (AA (pv 0) AC)) AB))).pt (AE (AH BD))
    AL)
   (AD (BA PassesOwn.never rfl (CG (by rfl) T.CM (AA AB AC)) (pgn 1 Kd)
    (AE (AY (EW (B0 (Bd (pcl T.FU (Fp T) hr AW (AA (pxi AK (pv 0) (pv 1)) AC)))) (C1 (ptc Cq (AJ Dt (by rfl) T.ON Kg (AA (pxi AK (pv 0) (pv 1)) AC)) AB))).pt (AE (AH BD))
      AL)))
   (AD (BA PassesOwn.never rfl (BL (Ae (AA AB (AA AB AC)))) (pgn 1 Kd)
    (AE (AY (EW (ptc Da (pxi AK (pv 0) (AF Ak (pv 1) AB)) AB) (C1 (ptc Dq (pcl T.Tz (Wq T) hr AW (AA (AJ Dt (by rfl) T.ON Kg (AA (pxi AK (pv 0) (pv 1)) AC)) (AA (pxi AK (pv 0) (AF Ak (pv 1) AB)) AC))) AB))).pt (AE (AH BD))
      AL)))
   (AE (AH BD))))), ?_⟩
  delta C3 K2
  walk_at "AUTO"
  refine ⟨4, rfl, by decide, by decide, BV (n := 4) (X6 q H) ⟨none, rfl, rfl⟩ ?_ ?_⟩
  ·rintro i σ H1 hi ⟨o, rfl, rfl⟩
   obtain ⟨u, hu', bu⟩ := atLn (P := fun u => u.natAbs ≤ 999999999) (ls := [x, y, z, v]) (e := 0 + (i : Int)) (by lia) (by simp only [List.length_cons, List.length_nil]; lia) (fun u hu => by
    simp only [List.mem_cons, List.not_mem_nil, or_false] at hu
    rcases hu with rfl | rfl | rfl | rfl <;> assumption)
   have hu' : atI [V.int x, V.int y, V.int z, V.int v] (0 + (i : Int)) = some (V.int u) := hu'
   delta C3
   walk_at "AUTO"
   exact ⟨_, rfl, rfl⟩
  ·rintro σ H1 ⟨o, rfl, rfl⟩
   refine ⟨by decide, fun p H2 hn hs he => ⟨p, rfl, ⟨_, SqL.of he⟩, Ci (xs := [.int 0, .int 2]) (X6 q H2) ⟨o, rfl, rfl⟩ ?_ ?_ ?_⟩⟩
   ·rintro i σ H3 _ ⟨o, rfl, rfl⟩
    exact SqL.of he
   ·rintro i w σ H3 hi ⟨o, rfl, rfl⟩
    rcases i with _ | _ | i
    ·cases hi
     delta K2
     walk_at "AUTO"
     rw [R7, g1]
     exact To (by simp) ⟨_, rfl, rfl⟩
    ·cases hi
     delta K2
     walk_at "AUTO"
     rw [R7, g2]
     exact To (by simp) ⟨_, rfl, rfl⟩
    ·cases hi
   ·rintro σ H3 ⟨o, rfl, rfl⟩
    exact k _ hs
theorem So : AO ["_law_throw_here", "_law_place", "_law_height", "_law_line"] ["_law_throw_here", "_law_place", "_law_height"] (AG RE) := by walk_at "SC"
noncomputable def RX (K : PySem.W.Frag) : Sp := fun vs H Q _ => ∃ (q : Addr) (pl h x y z v : Int), vs = [.ref q, .int pl, .int h] ∧ SqT K H q [.int x, .int y, .int z, .int v] ∧ Md x ∧ Md y ∧ Md z ∧ Md v ∧ Md pl ∧ Md h ∧ Q (.int (x * v + z * pl * y - h * y * v)) H
theorem Ru (T : Tx K mg) : Ao P w K mg base CX0 1 T.UD T.SN ["_law_throw_here", "_law_place", "_law_height"] (RX K) := by
 refine T.Q7.F.ok So (fun vs H Q E h => ?_) (fun cdv A outer s H vs Q E hr h => ?_)
 ·obtain ⟨q, pl, h, x, y, z, v, rfl, hq, mx, my, mz, mv, mp, mh, k⟩ := h
  rfl
 ·obtain ⟨q, pl, h, x, y, z, v, rfl, hq, mx, my, mz, mv, mp, mh, k⟩ := h
  have hu := Ad hr
  refine ⟨_, (AD (pst 3 So (AF Ak (AF Bm (pxi AK (pv 0) AB) (pxi AK (pv 0) AB)) (AF Bm (AF Bm (pxi AK (pv 0) AB) (pv 1)) (pxi AK (pv 0) AB))))
   (AE (AH (AF Al (pv 3) (AF Bm (AF Bm (pv 2) (pxi AK (pv 0) AB)) (pxi AK (pv 0) AB)))))), ?_⟩
  have s1 := mx.sm
  have s2 := my.sm
  have s3 := mz.sm
  have s4 := mv.sm
  have s5 := mp.sm
  have s6 := mh.sm
  have s7 := mz.mulS mp
  have s8 := mh.mulS my
  walk_at "RD"
  walk_at "AUTO"
  exact k
theorem XQ : AO ["_law_throw_here", "_law_gate"] ["_law_throw_here", "_law_gate"] (AG TV) := by walk_at "SC"
noncomputable def XW (K : PySem.W.Frag) : Sp := fun vs H Q _ => ∃ (p g : Addr) (a b c d pl f h : Int), vs = [.ref p, .ref g] ∧ SqT K H p [.int a, .int b, .int c, .int d] ∧ SqT K H g [.int pl, .int f, .int h] ∧ Md a ∧ Md b ∧ Md c ∧ Md d ∧ Md pl ∧ Md f ∧ Md h ∧ Q (.bl (decide (Pas a b c d pl f h))) H
theorem W3 (T : Tx K mg) : Ao P w K mg base CX0 2 T.WB T.UB ["_law_throw_here", "_law_gate"] (XW K) := by
 refine T.Wa.F.ok XQ (fun vs H Q E h => ?_) (fun cdv A outer s H vs Q E hr h => ?_)
 ·obtain ⟨p, g, a, b, c, d, pl, f, h, rfl, hp, hg, m1, m2, m3, m4, m5, m6, m7, k⟩ := h
  rfl
 ·obtain ⟨p, g, a, b, c, d, pl, f, h, rfl, hp, hg, m1, m2, m3, m4, m5, m6, m7, k⟩ := h
  have hu := Ad hr
  refine ⟨_, (AD (AY (ptc Da (pcl T.Q7 (Ru T) hr AW (AA (pv 0) (AA (pxi AK (pv 1) AB) (AA (pxi AK (pv 1) AB) AC)))) AB) (AE (AH BD))
    AL)
   (AE (AH (pec Sr (pcl T.Q7 (Ru T) hr AW (AA (pv 0) (AA (pxi AK (pv 1) AB) (AA (pxi AK (pv 1) AB) AC)))) AB)))), ?_⟩
  have q1 : a * d + c * pl * b - f * b * d = a * d + pl * c * b - f * (b * d) := by grind
  have q2 : a * d + c * pl * b - h * b * d = a * d + pl * c * b - h * (b * d) := by grind
  delta RX
  walk_at "AUTO"
  refine ⟨a, b, c, d, hp, m1, m2, m3, m4, m5, m6, ?_⟩
  rw [q1]
  by_cases g1 : a * d + pl * c * b - f * (b * d) < 0
  ·rw [if_pos (decide_eq_true g1)]
   have e : decide (Pas a b c d pl f h) = false := by
    unfold Pas
    exact decide_eq_false (by lia)
   rw [e] at k
   exact k
  ·rw [if_neg (by simpa using g1)]
   walk_at "AUTO"
   refine ⟨a, b, c, d, hp, m1, m2, m3, m4, m5, m7, ?_⟩
   rw [q2]
   have e : decide (Pas a b c d pl f h) = decide (a * d + pl * c * b - h * (b * d) ≤ 0) := by
    unfold Pas
    exact decide_eq_decide.mpr (by lia)
   rw [e] at k
   exact k
theorem QW : AO ["_law_found", "_law_due", "_law_k"] ["_law_found", "_law_due"] (AG OE) := by walk_at "SC"
noncomputable def VU (K : PySem.W.Frag) : Sp := fun vs H Q _ => ∃ (x y : Addr) (xs : List Int), vs = [.ref x, .ref y] ∧ H x = some (.lst (xs.map V.int)) ∧ SqL K H y (xs.map V.int) ∧ xs.length ≤ 1000 ∧ Q (.bl true) H
noncomputable def W_lst (x y : Addr) (H : Hp) : Nat → St → Hp → Prop := fun i σ H' => ∃ k, σ = [some (.ref x), some (.ref y), k] ∧ H' = H
theorem P7 (T : Tx K mg) : Ao P w K mg base CX0 2 T.R6 T.P5 ["_law_found", "_law_due"] (VU K) := by
 refine T.OR.F.ok QW (fun vs H Q E h => ?_) (fun cdv A outer s H vs Q E hr h => ?_)
 ·obtain ⟨x, y, xs, rfl, ex, ey, hl, k⟩ := h
  rfl
 ·obtain ⟨x, y, xs, rfl, ex, ey, hl, k⟩ := h
  have hu := Ad hr
  refine ⟨_, (AD (AY (EW (B0 (Bd (AJ CU (by rfl) T.CF Br (AA (pv 0) (AA (Ia (v := .ty "list") (by rfl) T.MS Ig rfl) AC))))) (C1 (ptc Dq (AJ AT (by rfl) T.Az Ap (AA (pv 0) AC)) (AJ AT (by rfl) T.Az Ap (AA (pv 1) AC))))).pt (AE (AH BD))
    AL)
   (AD (BA PassesOwn.never rfl (CG (by rfl) T.CM (AA (AJ AT (by rfl) T.Az Ap (AA (pv 1) AC)) AC)) (pgn 2 QW)
    (AE (AY (EW (B0 (Bd (pcl T.FU (Fp T) hr AW (AA (pxi AM (pv 0) (pv 2)) AC)))) (C1 (ptc Dq (pxi AM (pv 0) (pv 2)) (pxi AM (pv 1) (pv 2))))).pt (AE (AH BD))
      AL)))
   (AE (AH BD)))), ?_⟩
  walk_at "RD"
  walk_at "AUTO"
  refine ⟨_, rfl, _, rfl, _, Or.inl ey, ((xs.map V.int).length : Int), rfl, by rw [List.length_map]; lia, by rw [List.length_map]; lia, BV (n := (((xs.map V.int).length : Nat) : Int).toNat) (W_lst x y H) ⟨none, rfl, rfl⟩ ?_ ?_⟩
  ·rintro i σ H1 hi ⟨k', rfl, rfl⟩
   rw [List.length_map] at hi
   delta C3
   walk_at "AUTO"
   exact ⟨_, rfl, rfl⟩
  ·rintro σ H1 ⟨k', rfl, rfl⟩
   walk_at "RD"
   exact k
theorem O3 : AO ["_law_stands"] ["_law_stands"] (AG Fo) := by walk_at "SC"
noncomputable def Pf (K : PySem.W.Frag) : Sp := fun vs H Q _ => ∃ (d : Addr) (gs : List G), vs = [.ref d] ∧ A3 H d gs ∧ Std gs ∧ ∀ D H' as, H D = none → AI H H' → H' D = some (.lst (as.map V.ref)) → At H' as gs → Q (.ref D) H'
theorem Pd (T : Tx K mg) : Ao P w K mg base CX0 1 T.Lx T.JW ["_law_stands"] (Pf K) := by
 refine T.K8.F.ok O3 (fun vs H Q E h => ?_) (fun cdv A outer s H vs Q E hr h => ?_)
 ·obtain ⟨d, gs, rfl, hd, sd, k⟩ := h
  rfl
 ·obtain ⟨d, gs, rfl, hd, sd, k⟩ := h
  have hu := Ad hr
  refine ⟨_, (AE (AH (Ii rfl (⟨rfl, by decide +kernel, by decide +kernel, by decide +kernel, rfl, by decide +kernel, by with_unfolding_all rfl, by rfl, by rfl, by rfl⟩ : BI _ _ "_law_place" ["_law_stands"] [0]) (BL (AJ (B9 (by rfl)) (by rfl) T.Bh BN (AA (pv 0) AC))) (fun _ _ _ _  => (Ai (AA (pv 0) (AA (Wj (EK (K := K) rfl) (Ua (hu) (pv 1) (pv 0) (fun _ _ => rfl)) AB (fun _ _ => rfl)) (AA (Wj (EK (K := K) rfl) (Ua (hu) (pv 1) (pv 0) (fun _ _ => rfl)) AB (fun _ _ => rfl)) AC))))) (fun _ _ _ _ => Ik)))), ?_⟩
  obtain ⟨kvs, ks, e, e2, pm, q⟩ := hd.at_
  delta Ec MA
  have lk := pm.length_eq
  rw [List.length_map] at lk
  refine ⟨kvs, e, ks, e2, by have := sd.len; lia, fun D H1 ks' n1 s1 e1 pm' so => ⟨⟨_, SqL.of e1⟩, fun D2 n2 => ?_⟩⟩
  have ek : ks' = AU gs := Kh so (JT sd.asc) (pm'.trans pm)
  subst ek
  refine S2 (SqL.of e1) n2 (by have := sd.len; lia) (fun g H2 R hg s2 hR => ?_) fun H2 as s2 e3 ga => k D2 H2 as (s1.free n2) (s1.trans s2) e3 ga
  obtain ⟨a, z1, z2⟩ := q g hg
  have z3 := s2.get (s1.get z2)
  have gt : G1 H2 d (V.int g.p) (some (.ref a)) := by
   have := G1.k (H := H2) (k := .inl g.p) (s2.get (s1.get e))
   rw [z1] at this
   exact this
  delta HE Option.join_some
  refine ⟨_, gt, _, rfl, _, SqT.of z3, _, rfl, _, gt, _, rfl, _, SqT.of z3, _, rfl, by decide, hR⟩
theorem GA : AO ["_law_beach", "_law_stands", "_law_throw_here", "_law_places", "_law_told", "_law_due", "_law_place"] ["_law_beach", "_law_stands", "_law_throw_here", "_law_places"] (AG ME) := by walk_at "SC"
noncomputable def TR {K : PySem.W.Frag} {mg : Str → Option Value} (T : Tx K mg) : Sp := fun vs H Q _ => ∃ (b S P d q l : Addr) (ow : List Addr) (gs : List G) (past : List (List G)) (t : Thr) (ps : List Int), vs = [.ref b, .ref d, .ref q, .ref l] ∧ Bch T.AS H b S P ow gs past ∧ A3 H d gs ∧ H q = some (.tup t.vs) ∧ OkT t ∧ SqL K H l (ps.map V.int) ∧ (∀ p ∈ ps, ∃ g ∈ gs, g.p = p ∧ t.pas g) ∧ ∀ H', AI H H' → Q (.bl true) H'
theorem KR (T : Tx K mg) : Ao P w K mg base CX0 7 T.Pu T.N0 ["_law_beach", "_law_stands", "_law_throw_here", "_law_places"] (TR T) := by
 refine T.IR.F.ok GA (fun vs H Q E h => ?_) (fun cdv A outer s H vs Q E hr h => ?_)
 ·obtain ⟨b, S, P, d, q, l, ow, gs, past, t, ps, rfl, hb, hd, eq, ot, hl, sub, k⟩ := h
  rfl
 ·obtain ⟨b, S, P, d, q, l, ow, gs, past, t, ps, rfl, hb, hd, eq, ot, hl, sub, k⟩ := h
  have hu := Ad hr
  refine ⟨_, (AD (AY (B0 (Bd (pcl T.QP (Ss T) hr AW (AA (pv 2) AC)))) (AE (AH BD))
    AL)
   (AD (pst 4 GA (BX (pv 0) T.AV T.B4.mt (GY T) (hr.mono (by decide)) T.B4.b .nil J9 (AA (pv 2) AC)))
   (AD (Fy (i := 5) rfl GA.nd rfl (Or.inl rfl) (⟨rfl, by decide +kernel, by decide +kernel, by decide +kernel, rfl, by decide +kernel, by with_unfolding_all rfl, by rfl, by rfl, by rfl⟩ : BI _ _ "_law_gate" ["_law_throw_here"] [2]) (BL (pcl T.K8 (Pd T) hr AW (AA (pv 1) AC))) (fun _ _ _ _  => (pxi (EK (K := K) rfl) (pv 0) AB)) (fun _ _ _ _ => (NX (Bd (pcl T.Wa (W3 T) hr AW (AA (pv 1) (AA (pv 0) AC)))))))
   (AD (AY (B0 (Bd (pcl T.OR (P7 T) hr AW (AA (pv 4) (AA (pv 5) AC))))) (AE (AH BD))
    AL)
   (AD (BA PassesOwn.never rfl (BL (pv 3)) (pgn 6 GA)
    (AE (AY (UX Qt (pv 6) (pv 5) (by with_unfolding_all rfl)) (AE (AH BD))
      AL)))
   (AE (AH BD))))))), ?_⟩
  have l40 := hb.std.len
  walk_at "Q"
  walk_at "RD"
  refine ⟨q, t.a, t.b, t.c, t.d, rfl, eq, ot.a1, ot.b1, ot.c1, ot.d1, ot.b0, ot.d0, ot.g1, ot.g2, fun H1 s1 => ⟨true, rfl, ?_⟩⟩
  rw [if_neg (by simp)]
  walk_at "NX"
  walk_at "Q"
  walk_at "RD"
  have hb1 := hb.same s1
  obtain ⟨dx, eb⟩ := hb1.at_
  have nbt : ¬ Sq t.a t.b t.c t.d := Qx ot.b0 ot.d0 ot.a1 ot.b1 ot.c1 ot.d1
  refine ⟨dx, _, eb, rfl, b, S, P, ow, gs, past, q, t.a, t.b, t.c, t.d, rfl, hb1, s1.get eq, fun w => absurd w nbt, fun _ D2 H2 n2 s2 e2 => ?_⟩
  walk_at "NX"
  have s02 := s1.trans s2
  walk_at "Q"
  delta Ec
  refine ⟨d, gs, rfl, hd.same s02, hb.std, fun R H3 as n3 s3 e3 ga3 => ⟨R, rfl, ⟨_, SqL.of e3⟩, fun D4 n4 => ?_⟩⟩
  have s03 := s02.trans s3
  have okM : Md t.a ∧ Md t.b ∧ Md t.c ∧ Md t.d := ⟨XF ot.a1 (by decide), XF ot.b1 (by decide), XF ot.c1 (by decide), XF ot.d1 (by decide)⟩
  refine Kq (Tq t.a t.b t.c t.d) (fun g => V.int g.p) (SqL.of e3) ga3 n4 (by lia) (fun v' g H R hg s ev hR => ?_) (fun v' g H R hg s ev hR => ?_) fun H4 s4 e4 => ?_
  ·have og := hb.std.ok g hg
   have o1 := og.p0
   have o2 := og.p1
   have o3 := og.f0
   have o4 := og.fh
   have o5 := og.h1
   delta Option.join_some
   exact ⟨q, v', t.a, t.b, t.c, t.d, g.p, g.f, g.h, rfl, SqT.of ((s03.trans s).get eq), SqT.of ev, okM.1, okM.2.1, okM.2.2.1, okM.2.2.2, (show g.p.natAbs ≤ 10 ^ 60 by lia), (show g.f.natAbs ≤ 10 ^ 60 by lia), (show g.h.natAbs ≤ 10 ^ 60 by lia), _, rfl, hR _ (AI.refl _)⟩
  ·delta Option.join_some
   exact ⟨_, SqT.of ev, _, rfl, hR⟩
  have e4' : H4 D4 = some (.lst ((AU (gs.filter (Tq t.a t.b t.c t.d))).map V.int)) := by rw [e4, List.map_map]; rfl
  have s04 := s03.trans s4
  have fl := List.length_filter_le (Tq t.a t.b t.c t.d) gs
  walk_at "NX"
  clear e4
  walk_at "Q"
  walk_at "RD"
  refine ⟨D2, D4, _, rfl, (s3.trans s4).get e2, SqL.of e4', by rw [List.length_map]; lia, true, rfl, ?_⟩
  rw [if_neg (by simp)]
  walk_at "NX"
  have hl4 := s04.seq hl
  walk_at "Q"
  delta Ec
  refine ⟨_, rfl, l, rfl, ⟨_, hl4⟩, Ci (xs := ps.map V.int) (fun i σ H' => ∃ o6, σ = [some (.ref b), some (.ref d), some (.ref q), some (.ref l), some (.ref D2), some (.ref D4), o6] ∧ H' = H4) ⟨none, rfl, rfl⟩ (fun _ _ _ _ ⟨_, _, e⟩ => e ▸ hl4) ?_ ?_⟩
  ·rintro i v σ H5 hx ⟨o6, rfl, rfl⟩
   have hi : i < ps.length := by
    have := (List.getElem?_eq_some_iff.mp hx).1
    rwa [List.length_map] at this
   have ev : v = V.int ps[i] := by
    rw [List.getElem?_map, List.getElem?_eq_getElem hi] at hx
    exact (Option.some.inj hx).symm
   subst ev
   obtain ⟨g, hg, ep, hp⟩ := sub ps[i] (List.getElem_mem hi)
   generalize ps[i] = p at *
   walk_at "RD"
   refine ⟨_, .inl (SqL.of e4'), rfl, SJ _, ?_⟩
   rw [Q0, decide_eq_true (List.mem_map.mpr ⟨g, List.mem_filter.mpr ⟨hg, decide_eq_true hp⟩, ep⟩), if_neg (by decide)]
   exact ⟨_, rfl⟩
  rintro σ H5 ⟨o6, rfl, rfl⟩
  walk_at "NX"
  exact k _ s04
theorem Cd : AO ["_law_beach", "_law_stands", "_law_places", "_law_told", "_law_found"] ["_law_beach", "_law_stands", "_law_places"] (AG Ek) := by walk_at "SC"
noncomputable def Oq {K : PySem.W.Frag} {mg : Str → Option Value} (T : Tx K mg) : Sp := fun vs H Q _ => ∃ (b S P d l : Addr) (ow : List Addr) (gs : List G) (past : List (List G)) (ps : List Int), vs = [.ref b, .ref d, .ref l] ∧ Bch T.AS H b S P ow gs past ∧ A3 H d gs ∧ SqL K H l (ps.map V.int) ∧ ps ≠ [] ∧ ps.length ≤ 40 ∧ ps.Nodup ∧ (∀ p ∈ ps, p ∈ AU gs) ∧ ∀ H', AI H H' → Q (.bl true) H'
noncomputable def EA (H : Hp) (D : Addr) (gs : List G) : Prop := (∃ (q : Addr) (t : Thr) (r : List V), H D = some (.tup (.str "throw" :: .ref q :: r)) ∧ H q = some (.tup t.vs) ∧ OkT t ∧ ∀ g ∈ gs, t.pas g) ∨ ∃ (q : Addr) (r : List V), H D = some (.tup (.str "bar" :: .ref q :: r))
theorem EA.same {H H' : Hp} {D : Addr} {gs : List G} (h : EA H D gs) (s : AI H H') : EA H' D gs := by
 rcases h with ⟨q, t, r, e, e2, ok, all⟩ | ⟨q, r, e⟩
 ·exact .inl ⟨q, t, r, s.get e, s.get e2, ok, all⟩
 ·exact .inr ⟨q, r, s.get e⟩
theorem EA.t {H : Hp} {D : Addr} {gs : List G} (h : MU H D gs) : EA H D gs := by
 rcases h with ⟨q, t, e, e2, ok, all⟩ | ⟨q, t, e, e2, ne, hf⟩
 ·exact .inl ⟨q, t, [], e, e2, ok, all⟩
 ·exact .inr ⟨q, [], e⟩
theorem EA.e {up : Bool} {H : Hp} {D : Addr} {gs : List G} (h : OX up H D gs) : EA H D gs := by
 rcases h with ⟨q, t, x, y, e, e2, ok, all, hx, hy, lt, tx, ty⟩ | ⟨q, t, e, e2, ne, hf⟩
 ·exact .inl ⟨q, t, _, e, e2, ok, all⟩
 ·exact .inr ⟨q, [], e⟩
theorem Uj {gs : List G} {ps : List Int} {t : Thr} (sub : ∀ p ∈ ps, p ∈ AU gs) (all : ∀ g ∈ CV gs ps, t.pas g) : ∀ p ∈ ps, ∃ g ∈ gs, g.p = p ∧ t.pas g := fun p hp => by
 have : p ∈ AU (CV gs ps) := by rw [Bb sub]; exact hp
 obtain ⟨g, hg, e⟩ := List.mem_map.mp this
 exact ⟨g, Dj hg, e, all g hg⟩
theorem Ou (T : Tx K mg) : Ao P w K mg base CX0 10 T.Jy T.HD ["_law_beach", "_law_stands", "_law_places"] (Oq T) := by
 refine T.JY.F.ok Cd (fun vs H Q E h => ?_) (fun cdv A outer s H vs Q E hr h => ?_)
 ·obtain ⟨b, S, P, d, l, ow, gs, past, ps, rfl, hb, hd, hl, ne, l40, nd, sub, k⟩ := h
  rfl
 ·obtain ⟨b, S, P, d, l, ow, gs, past, ps, rfl, hb, hd, hl, ne, l40, nd, sub, k⟩ := h
  have hu := Ad hr
  refine ⟨_, (AD (pst 3 Cd (Ae (AA (BX (pv 0) T.AV T.DQ.mt (MX T) (hr.mono (by decide)) T.DQ.b .nil J9 (AA (Bs Dk (by rfl) T.MS Ig (AA (pv 2) AC)) AC)) AC)))
   (AD (AY (ptc Cq (AJ AT (by rfl) T.Az Ap (AA (pv 2) AC)) AB) (AE (pst 3 Cd (AF Lw (pv 3) (Ae (AA (BX (pv 0) T.AV T.Cu.mt (Lf T) (hr.mono (by decide)) T.Cu.b .nil J9 (AA (Bs Dk (by rfl) T.MS Ig (AA (pv 2) AC)) AC)) (AA (BX (pv 0) T.AV T.C9.mt (Lm T) (hr.mono (by decide)) T.C9.b .nil J9 (AA (Bs Dk (by rfl) T.MS Ig (AA (pv 2) AC)) AC)) AC))))))
    AL)
   (AD (BA PassesOwn.never rfl (BL (pv 3)) (pgn 4 Cd)
    (AD (AY (EW (B0 (Bd (AJ CU (by rfl) T.CF Br (AA (pv 4) (AA (Ia (v := .ty "tuple") (by rfl) T.RO N7 rfl) AC))))) (C1 (ptc Da (AJ AT (by rfl) T.Az Ap (AA (pv 4) AC)) AB))).pt (AE (AH BD))
      AL)
     (AE (AY (Dm (ptc Ay (pxi AK (pv 4) AB) AX) (Ca (B0 (Bd (pcl T.IR (KR T) hr AW (AA (pv 0) (AA (pv 1) (AA (pxi AK (pv 4) AB) (AA (pv 2) AC))))))))).pt (AE (AH BD))
      AL))))
   (AE (AH BD))))), ?_⟩
  have nbad : ¬ Ed ps := fun z => by
   rcases z with z | z | z
   ·exact ne z
   ·lia
   ·exact z nd
  obtain ⟨dx, eb⟩ := hb.at_
  walk_at "Q"
  walk_at "RD"
  refine ⟨dx, _, eb, rfl, _, .inl hl, fun l' H2 n2 s2 e2 => ?_⟩
  refine ⟨b, S, P, ow, gs, past, l', ps, rfl, hb.same s2, SqL.of e2, by lia, fun z => absurd z nbad, fun _ => sub, fun _ D1 H3 s3 th1 => ⟨by decide, fun TL H4 n4 s4 e4 => ?_⟩⟩
  have s04 := s2.trans (s3.trans s4)
  walk_at "NX"
  have td1 := (EA.t th1).same s4
  clear e2 n2 th1 n4
  walk_at "Q"
  have rest : ∀ (TL : Addr) (ts : List Addr) (H5 : Hp), AI H H5 → H5 TL = some (.lst (ts.map V.ref)) → ts.length ≤ 9 → (∀ D ∈ ts, EA H5 D (CV gs ps)) → M [some (.ref b), some (.ref d), some (.ref l), some (.ref TL), none] H5 := by
   intro TL ts H5 s5 e5 lt9 td
   refine hM _ _ ?_
   clear hM M
   clear td1 e4
   walk_at "Q"
   delta Ec
   refine ⟨_, rfl, TL, rfl, ⟨_, SqL.of e5⟩, Ci (xs := ts.map V.ref) (fun i σ H' => ∃ o4, σ = [some (.ref b), some (.ref d), some (.ref l), some (.ref TL), o4] ∧ AI H5 H') ⟨none, rfl, AI.refl _⟩ (fun _ _ _ _ ⟨_, _, s⟩ => SqL.of (s.get e5)) ?_ ?_⟩
   ·rintro i v σ H6 hx ⟨o4, rfl, s6⟩
    have hi : i < ts.length := by
     have := (List.getElem?_eq_some_iff.mp hx).1
     rwa [List.length_map] at this
    have ev : v = V.ref ts[i] := by
     rw [List.getElem?_map, List.getElem?_eq_getElem hi] at hx
     exact (Option.some.inj hx).symm
    subst ev
    have t6 := (td ts[i] (List.getElem_mem hi)).same s6
    generalize ts[i] = D at *
    rcases t6 with ⟨q, t, r, e, e2, ot, all⟩ | ⟨q, r, e⟩
    ·walk_at "RD"
     refine ⟨_, GH.tup e, _, rfl, ?_⟩
     rw [if_neg (by decide)]
     refine ⟨_, .inr (SqT.of e), ?_⟩
     rw [if_neg (fun z => by have := of_decide_eq_true z; simp only [List.length_cons] at this; lia)]
     refine ⟨_, SqT.of e, _, IV (j := 0) rfl, rfl, ?_⟩
     rw [if_pos (by decide)]
     refine ⟨_, SqT.of e, _, IV (j := 1) rfl, b, S, P, d, q, l, ow, gs, past, t, ps, rfl, hb.same (s5.trans s6), hd.same (s5.trans s6), e2, ot, (s5.trans s6).seq hl, Uj sub all, fun H7 s7 => ⟨true, rfl, ?_⟩⟩
     rw [if_neg (by decide)]
     exact ⟨⟨_, rfl⟩, s6.trans s7⟩
    ·walk_at "RD"
     refine ⟨_, GH.tup e, _, rfl, ?_⟩
     rw [if_neg (by decide)]
     refine ⟨_, .inr (SqT.of e), ?_⟩
     rw [if_neg (fun z => by have := of_decide_eq_true z; simp only [List.length_cons] at this; lia)]
     refine ⟨_, SqT.of e, _, IV (j := 0) rfl, rfl, ?_⟩
     rw [if_neg (by decide)]
     exact ⟨⟨_, rfl⟩, s6⟩
   rintro σ H6 ⟨o4, rfl, s6⟩
   walk_at "NX"
   exact k _ (s5.trans s6)
  clear hM
  walk_at "RD"
  refine ⟨_, .inl (s04.seq hl), ?_⟩
  rw [List.length_map]
  by_cases h2 : 1 < ps.length
  ·rw [if_pos (decide_eq_true (by lia))]
   have hb4 := hb.same s04
   obtain ⟨dx, eb⟩ := hb4.at_
   refine ⟨dx, _, eb, rfl, _, .inl (s04.seq hl), fun l1 H5 n5 s5 e5 => ?_⟩
   refine ⟨b, S, P, ow, gs, past, l1, ps, rfl, hb4.same s5, SqL.of e5, by lia, fun z => absurd z nbad, fun _ => sub, fun _ z => by lia, fun _ _ D2 H6 s6 th2 => ?_⟩
   have s46 := s5.trans s6
   have hb6 := hb4.same s46
   obtain ⟨dx, eb⟩ := hb6.at_
   refine ⟨dx, _, eb, rfl, _, .inl ((s04.trans s46).seq hl), fun l2 H7 n7 s7 e7 => ?_⟩
   refine ⟨b, S, P, ow, gs, past, l2, ps, rfl, hb6.same s7, SqL.of e7, by lia, fun z => absurd z nbad, fun _ => sub, fun _ z => by lia, fun _ _ D3 H8 s8 th3 => ⟨by decide, fun z9 H9 n9 s9 e9 => ?_⟩⟩
   have s69 := s7.trans (s8.trans s9)
   refine ⟨_, (s46.trans s69).get e4, _, e9, by show 3 ≤ _; rw [PySem.sizeLine_eq]; decide, fun TL2 H10 n10 s10 e10 => ?_⟩
   have s49 := s46.trans s69
   refine rest TL2 [D1, D2, D3] H10 (s04.trans (s49.trans s10)) e10 (by show 3 ≤ 9; decide) fun D hD => ?_
   simp only [List.mem_cons, List.not_mem_nil, or_false] at hD
   rcases hD with rfl | rfl | rfl
   ·exact td1.same (s49.trans s10)
   ·exact (EA.e th2).same (s69.trans s10)
   ·exact (EA.e th3).same (s9.trans s10)
  ·rw [if_neg (fun z => h2 (by have := of_decide_eq_true z; lia))]
   exact rest TL [D1] H4 s04 e4 (by show 1 ≤ 9; decide) fun D hD => by rw [List.mem_singleton.mp hD]; exact td1
theorem Dx : AO ["_law_script", "_law_beach", "_law_stands", "_law_past", "_law_k", "_law_places", "_law_count", "_law_run", "_law_part", "_law_found"] ["_law_script"] (AG T7) := by walk_at "SC"
noncomputable def Tl (K : PySem.W.Frag) : Sp := fun vs H Q _ => ∃ (a : Addr) (ns : List Int), vs = [.ref a] ∧ SqL K H a (ns.map V.int) ∧ ns.length ≤ 63 ∧ LM.Tbl H Fk MN U8 ∧ ∀ H', Q (.bl true) H'
theorem bY (T : Tx K mg) : Ao P w K mg base CX0 11 T.X0 T.Ve ["_law_script"] (Tl K) := by
 refine T.d_law.F.ok Dx (fun vs H Q E h => ?_) (fun cdv A outer s H vs Q E hr h => ?_)
 ·obtain ⟨a, ns, rfl, hS, hl, tb, k⟩ := h
  rfl
 ·obtain ⟨a, ns, rfl, hS, hl, tb, k⟩ := h
  have hu := Ad hr
  refine ⟨_, (AD (pst 1 Dx (Vj T.Of (O9 T) (hr.mono (by decide)) (by rfl) T.Xv T.LH.b .nil AW))
   (AD (pst 2 Dx SF)
   (AD (pst 3 Dx (Ae AC))
   (AD (AY (B0 (Bd (pcl T.SC (VD T) hr AW (AA (pv 1) (AA (pv 2) (AA (pv 3) (AA (pv 0) (AA AB AC)))))))) (AE (AH BD))
    AL)
   (AD (BA PassesOwn.never rfl (L6 (by rfl) T.CM (AA AB (AA (AJ AT (by rfl) T.Az Ap (AA (pv 0) AC)) AC))) (pgn 4 Dx)
    (AD (AY (B0 (Bd (pcl T.LF (MF T) hr AW (AA (pv 1) (AA (pv 2) (AA (pv 3) (AA (pcl T.RY (U2 T) hr AW (AA (pv 0) (AA (pv 4) (AA (pv 2) (AA (pv 3) AC))))) AC))))))) (AE (AH BD))
      AL)
     (AE (AY (Dm (ptc Cq (AJ Di (by rfl) T.Az Ap (AA (pv 2) AC)) AB) (Ca (B0 (Bd (pcl T.JY (Ou T) hr AW (AA (pv 1) (AA (pv 2) (AA (pcl T.Nh (SZ T) hr AW (AA (pv 0) (AA (pv 4) (AA (pv 2) (AA AB AC))))) AC)))))))).pt (AE (AH BD))
      AL))))
   (AD (pst 5 Dx (AJ (B9 (by rfl)) (by rfl) T.Bh BN (AA (pv 2) AC)))
   (AD (pst 6 Dx AB)
   (AD (BA PassesOwn.never rfl (BL (Re (pv 1) T.AV T.F0.mt (Po T) (hr.mono (by decide)) T.F0.b .nil AW)) (pgn 7 Dx)
    (AD (Fy (i := 8) rfl Dx.nd rfl (Or.inl rfl) (⟨rfl, by decide +kernel, by decide +kernel, by decide +kernel, rfl, by decide +kernel, by with_unfolding_all rfl, by rfl, by rfl, by rfl⟩ : BI _ _ "_law_place" ["_law_run"] [7]) (BL (pv 5)) (fun _ _ _ _  => (pv 0)) (fun _ _ _ _ => (NX (Dm (ptc Sr (pxi (EK (K := K) rfl) (pv 1) AB) (pv 0)) (Ca (ptc Sr (pv 0) (pxi (EK (K := K) rfl) (pv 1) AB)))).pt)))
     (AD (pst 6 Dx (AF Ak (pv 6) (AJ AT (by rfl) T.Az Ap (AA (pv 8) AC))))
     (AE (AY (B0 (Bd (pcl T.IR (KR T) hr AW (AA (pv 1) (AA (pv 2) (AA (pxi AK (pv 7) AB) (AA (pv 8) AC))))))) (AE (AH BD))
      AL)))))
   (AD (AY (EW (ptc Cq (AJ AT (by rfl) T.Az Ap (AA (pv 5) AC)) AB) (EW (ptc (T5 (Nat.lt_of_succ_lt hu)) (pv 5) (Ae AC)) (C1 (ptc Dq (pv 6) (AJ AT (by rfl) T.Az Ap (AA (pv 5) AC)))))).pt (AE (AH (pec Ay (pv 6) (AJ AT (by rfl) T.Az Ap (AA (pv 5) AC)))))
    AL)
   (AD (pst 9 Dx (Re (pv 1) T.AV T.Fw.mt (PM T) (hr.mono (by decide)) T.Fw.b .nil J9))
   (AE (AH (RM (pcl T.IR (KR T) hr AW (AA (pv 1) (AA (pv 2) (AA (pxi AK (pv 9) AB) (AA (pxi AK (pv 9) AB) AC))))) (RD (pcl T.OR (P7 T) hr AW (AA (BX (pv 1) T.AV T.B4.mt (GY T) (hr.mono (by decide)) T.B4.b .nil J9 (AA (pxi AK (pv 9) AB) AC)) (AA (Bs Dk (by rfl) T.MS Ig (AA (pxi AK (pv 9) AB) AC)) AC))))))))))))))))), ?_⟩
  walk_at "Q"
  delta HW
  refine Wu fun b S0 P0 H3 nb nS nP s3 hb => ?_
  walk_at "NX"
  walk_at "Q"
  walk_at "RD"
  intro d H4 nd s4 e4
  walk_at "NX"
  walk_at "Q"
  walk_at "RD"
  refine ⟨by decide, fun L H5 nL s5 e5 => ?_⟩
  walk_at "NX"
  have s34 := s3.trans s4
  have s35 := s34.trans s5
  have fr : ∀ c ∈ [L, S0, P0], H c = none := fun c hc => by
   simp at hc
   rcases hc with rfl | rfl | rfl
   ·exact s34.free nL
   ·exact nS
   ·exact nP
  have sc5 : Scr K [L, S0, P0] H5 a (ns.map V.int) := Scr.of hS fr s35
  have hw0 : Wd T.AS H5 b S0 P0 [S0, P0] [] [] d L := ⟨hb.same (s4.trans s5), A3.nil (s5.get e4), ⟨[], e5, .nil, by simp⟩, (hb.same s4).off nL⟩
  have tb5 := Dw tb s35
  clear fr s34 s35 s3 s4 s5 e4 e5 nb nS nP nL nd hb hS tb
  walk_at "Q"
  walk_at "RD"
  refine ⟨b, S0, P0, d, L, a, ns, 12, rfl, sc5, hw0, by decide, by decide, fun H6 S P ow gs past kt hw => ⟨true, rfl, ?_⟩⟩
  rw [if_neg (by simp)]
  walk_at "NX"
  have sc6 := (sc5.kept kt).sq
  have tb6 := SS tb5 kt
  have lm : (ns.map V.int).length = ns.length := List.length_map ..
  clear hw0 tb5
  walk_at "Q"
  walk_at "RD"
  refine ⟨_, rfl, _, rfl, _, .inl sc6, 5, _, rfl, ⟨by lia, by lia, by lia, by lia⟩, BV (fun i σ H' => ∃ (o4 : Option V) (S P : Addr) (ow : List Addr) (gs : List G) (past : List (List G)), σ = [some (.ref a), some (.ref b), some (.ref d), some (.ref L), o4, none, none, none, none, none] ∧ JD [L, S0, P0] H5 H' (L :: ow) ∧ LM.Tbl H' Fk MN U8 ∧ Wd T.AS H' b S P ow gs past d L) ⟨_, S, P, ow, gs, past, rfl, kt.w, tb6, hw⟩ ?_ ?_⟩
  ·clear kt hw tb6 sc6
   rintro i σ H7 hi ⟨o4, S, P, ow, gs, past, rfl, kt, tb7, hw⟩
   have hi' : 5 + i < ns.length := by lia
   clear hi
   have sc7 := (sc5.keptW kt).sq
   obtain ⟨xs, eL, lL⟩ := hw.plen
   dsimp only [EM, List.set_cons_succ, List.set_cons_zero]
   walk_at "Q"
   walk_at "RD"
   refine ⟨a, 5 + (i : Int), ns, d, L, gs, xs, rfl, sc7, by lia, by lia, by lia, hw.dk, hw.bch.std.len, eL, fun q H8 w p x y n8 s8 e8 wd => ?_⟩
   refine ⟨b, S, P, ow, gs, past, d, L, q, w, p, x, y, rfl, SqT.of e8, hw.same s8, wd, fun H9 S1 P1 ow1 hw9 kt9 => ⟨true, rfl, ?_⟩⟩
   rw [if_neg (by simp)]
   walk_at "NX"
   have k9 := (kt.same s8).trans kt9.w
   have tb9 := SS (Dw tb7 s8) kt9
   generalize (aft w gs past p x y).1 = gs1 at *
   generalize (aft w gs past p x y).2 = past1 at *
   clear kt9 e8 s8 n8 wd tb7
   clear hw kt sc7 eL
   obtain ⟨kvs, eD, lD⟩ := hw9.dk.len
   walk_at "RD"
   refine ⟨kvs, eD, ?_⟩
   have l40 := hw9.bch.std.len
   have sc9 := (sc5.keptW k9).sq
   by_cases h0 : 0 < kvs.length
   ·rw [if_pos (decide_eq_true (by lia))]
    refine ⟨a, 5 + (i : Int), ns, d, gs1, 9, rfl, sc9, by lia, by lia, by lia, hw9.dk, hw9.bch.std, fun z => by rw [z, List.length_nil] at lD; lia, by decide, by decide, fun R H10 ps s10 eR ne nd lps sub => ?_⟩
    have hw10 := hw9.same s10
    refine ⟨b, S1, P1, d, R, ow1, gs1, past1, ps, rfl, hw10.bch, hw10.dk, SqL.of eR, ne, by lia, nd, sub, fun H11 s11 => ⟨true, rfl, ?_⟩⟩
    rw [if_neg (by simp)]
    exact ⟨⟨_, rfl⟩, S1, P1, ow1, (k9.same s10).same s11, Dw tb9 (s10.trans s11), _, _, hw10.same s11⟩
   ·rw [if_neg (fun z => h0 (by have := of_decide_eq_true z; lia))]
    exact ⟨⟨_, rfl⟩, S1, P1, ow1, k9, tb9, _, _, hw9⟩
  ·clear kt hw tb6 sc6
   rintro σ H7 ⟨o4, S, P, ow, gs, past, rfl, kt, tb7, hw⟩
   refine hM _ _ ?_
   clear hM M
   have l40 := hw.bch.std.len
   walk_at "Q"
   walk_at "RD"
   refine Wr hw.dk hw.bch.std fun R H8 n8 s8 eR => ?_
   walk_at "NX"
   have hw8 := hw.same s8
   have tb8 := Dw tb7 s8
   have lpl : (AU gs).length = gs.length := List.length_map ..
   clear n8 tb7 hw kt
   walk_at "Q"
   walk_at "RD"
   walk_at "NX"
   walk_at "Q"
   delta Ec
   obtain ⟨dx, eb⟩ := hw8.bch.at_
   refine ⟨_, rfl, b, dx, _, rfl, eb, rfl, b, S, P, ow, gs, past, rfl, hw8.bch, fun D H9 as' rs n9 s9 ra => ⟨D, rfl, ⟨_, SqL.of ra.eD⟩, ?_⟩⟩
   have ers : rs.flatMap Run.all = gs := DE ra.asc hw8.bch.std.asc ra.perm
   have lrs := Paired.length ra.at_
   refine Ci (xs := as'.map V.ref) (fun i σ H' => ∃ (o7 o8 : Option V), σ = [some (.ref a), some (.ref b), some (.ref d), some (.ref L), o4, some (.ref R), some (.int (((rs.take i).flatMap Run.all).length : Int)), o7, o8, none] ∧ AI H9 H') ⟨none, none, rfl, AI.refl _⟩ (fun _ _ _ _ ⟨_, _, _, s⟩ => SqL.of (s.get ra.eD)) ?_ ?_
   ·rintro i v σ H10 hx ⟨o7, o8, rfl, s10⟩
    have hi : i < rs.length := by
     have := (List.getElem?_eq_some_iff.mp hx).1
     rw [List.length_map] at this
     lia
    obtain ⟨ai, hai, q, e1, e2, ot, pas⟩ := Paired.get ra.at_ (List.getElem?_eq_getElem hi)
    have ex : v = V.ref ai := by
     rw [List.getElem?_map, hai] at hx
     exact (Option.some.inj hx).symm
    subst ex
    have rl := WE hi
    have rp : (AU gs).filter (fun p => decide (rs[i].g.p ≤ p) && decide (p ≤ rs[i].last.p)) = AU rs[i].all := by
     rw [O6, ← ers, Ki hi, WC (by rw [← Ki hi]; exact ra.asc)]
    have rg : ∀ g ∈ rs[i].all, g ∈ gs := fun g hg => by
     rw [← ers, Ki hi]
     exact List.mem_append_right _ (List.mem_append_left _ hg)
    rw [rl]
    generalize ((rs.take i).flatMap Run.all).length = n at *
    generalize rs[i] = r at *
    clear rl hai hx hi
    have e1 := s10.get e1
    have s80 := s9.trans s10
    delta Ec
    refine ⟨⟨_, SqL.of (s80.get eR)⟩, fun D4 n4 => ?_⟩
    refine RA (fun p => decide (r.g.p ≤ p) && decide (p ≤ r.last.p)) (SqL.of (s80.get eR)) n4 (by lia) (fun p H R hp s hR => ?_) fun H11 s11 e11 => ?_
    ·delta Option.join_some
     refine ⟨_, SqT.of (s.get e1), _, rfl, _, rfl, ?_⟩
     by_cases h1 : r.g.p ≤ p
     ·rw [if_pos (decide_eq_true h1)]
      refine ⟨_, SqT.of (s.get e1), _, rfl, _, rfl, ?_⟩
      rw [decide_eq_true h1, Bool.true_and] at hR
      exact hR
     ·rw [if_neg (fun z => h1 (of_decide_eq_true z))]
      rw [decide_eq_false h1, Bool.false_and] at hR
      exact hR
    rw [rp] at e11
    have hw11 := hw8.same (s80.trans s11)
    refine ⟨_, .inl (SqL.of e11), _, SqT.of (s11.get e1), _, rfl, b, S, P, d, q, D4, ow, gs, past, r.t, AU r.all, rfl, hw11.bch, hw11.dk, (s10.trans s11).get e2, ot, SqL.of e11, fun p hp => ?_, fun H12 s12 => ⟨true, rfl, ?_⟩⟩
    ·obtain ⟨g, hg, e⟩ := List.mem_map.mp hp
     exact ⟨g, rg g hg, e, pas g hg⟩
    ·rw [if_neg (by decide)]
     refine ⟨?_, ⟨_, rfl⟩, ⟨_, rfl⟩, s10.trans (s11.trans s12)⟩
     rw [List.length_map, List.length_map, List.length_cons]
     lia
   rintro σ H10 ⟨o7, o8, rfl, s10⟩
   rw [List.length_map, lrs, List.take_length, ers]
   refine hM _ _ ?_
   clear hM M
   have s80 := s9.trans s10
   have hw10 := hw8.same s80
   have tb10 := Dw tb8 s80
   have eR10 := s80.get eR
   clear hw8 tb8 s80 s9 s10 ra ers lrs eR eb
   walk_at "Q"
   walk_at "RD"
   refine ⟨_, .inl (SqL.of eR10), ?_⟩
   rw [List.length_map, lpl]
   have fin : ∀ H', AI H10 H' → ∃ x, (SqL K H' R x ∨ SqT K H' R x) ∧ Q (V.bl (decide ((gs.length : Int) = (x.length : Int)))) H' := fun H' s' => ⟨_, .inl (SqL.of (s'.get eR10)), by rw [List.length_map, lpl, decide_eq_true rfl]; exact k _⟩
   by_cases h12 : 12 < gs.length
   ·rw [if_pos (decide_eq_true (by lia))]
    exact fin H10 (AI.refl _)
   rw [if_neg (fun z => h12 (by have := of_decide_eq_true z; lia))]
   refine ⟨Nat.zero_le _, fun z H11 n11 s11 e11 => ⟨_, SqL.of (s11.get eR10), SqL.of e11, ?_⟩⟩
   by_cases h0 : gs = []
   ·rw [if_pos (decide_eq_true (by rw [h0]; rfl))]
    exact fin H11 s11
   rw [if_neg (fun z => h0 (by have := of_decide_eq_true z; rw [List.map_eq_nil_iff, List.map_eq_nil_iff] at this; exact this))]
   refine ⟨_, .inl (SqL.of (s11.get eR10)), ?_⟩
   rw [List.length_map, lpl, if_neg (by simp)]
   walk_at "NX"
   have p0 := List.length_pos_iff.mpr h0
   have hw11 := hw10.same s11
   have tb11 := Dw tb10 s11
   clear fin hw10 tb10 eR10 e11 n11 s11
   walk_at "Q"
   walk_at "RD"
   obtain ⟨dx, eb⟩ := hw11.bch.at_
   refine ⟨dx, _, eb, rfl, b, S, P, ow, gs, past, rfl, hw11.bch, tb11, fun z => by lia, fun _ _ D H12 L1 q t sg nL s12 tb12 mo => ?_⟩
   walk_at "NX"
   have hw12 := hw11.sameT s12 tb11
   have eg : sg = gs := DE mo.ha hw12.bch.std.asc mo.hp
   subst eg
   clear hw11 tb11 s12 eb
   walk_at "RD"
   have fl := List.length_filter_le (fun g => decide (t.pas g)) sg
   refine ⟨_, SqT.of mo.eD, _, rfl, _, SqT.of mo.eD, _, rfl, b, S, P, d, q, L1, ow, sg, past, t, _, rfl, hw12.bch, hw12.dk, mo.eq, mo.ok, SqL.of mo.eL, fun p hp => ?_, fun H13 s13 => ⟨true, rfl, ?_⟩⟩
   ·obtain ⟨g, hg, e⟩ := List.mem_map.mp hp
    have := List.mem_filter.mp hg
    exact ⟨g, this.1, e, of_decide_eq_true this.2⟩
   rw [if_pos rfl]
   have hw13 := hw12.same s13
   have mo13 := mo.same s13
   obtain ⟨dx, eb⟩ := hw13.bch.at_
   have ot := mo.ok
   have nbt : ¬ Sq t.a t.b t.c t.d := Qx ot.b0 ot.d0 ot.a1 ot.b1 ot.c1 ot.d1
   refine ⟨dx, _, eb, rfl, _, SqT.of mo13.eD, _, rfl, b, S, P, ow, sg, past, q, t.a, t.b, t.c, t.d, rfl, hw13.bch, mo13.eq, fun w => absurd w nbt, fun _ D2 H14 n14 s14 e14 => ?_⟩
   refine ⟨_, SqT.of (s14.get mo13.eD), _, rfl, L1, rfl, _, .inl (SqL.of (s14.get mo13.eL)), fun l H15 n15 s15 e15 => ?_⟩
   exact ⟨D2, l, _, rfl, s15.get e14, SqL.of e15, by rw [List.length_map]; show (sg.filter (fun g => decide (t.pas g))).length ≤ 1000; lia, k _⟩
end
theorem bW {l : PySem.W.OpenLaw} {w : World} {K : PySem.W.Frag} {h : Heap} {mg : Str → Option Value} {fa : Addr} (KO : Td K = Ui) (X : K.In h) (G : h.Ns mainGlobals mg) (hfa : mg "law" = some (.ref fa)) :
  ∃ fd : FuncData, (∀ (s : Shared) (v : Value), BindsTo s fd ⟨[v], []⟩ [("_law_script", v)]) ∧ (∀ h', K.In h' → isCodeTable h' Fk) ∧ ∀ base : Heap, K.In base → base.Ns mainGlobals mg → Ao l.prog w K mg base CX0 11 fa fd ["_law_script"] (Tl K) := by
 obtain ⟨g0, KO⟩ := Prod.mk.inj KO
 obtain ⟨g1, KO⟩ := Prod.mk.inj KO
 obtain ⟨g2, KO⟩ := Prod.mk.inj KO
 obtain ⟨g3, KO⟩ := Prod.mk.inj KO
 obtain ⟨g4, KO⟩ := Prod.mk.inj KO
 obtain ⟨g5, KO⟩ := Prod.mk.inj KO
 obtain ⟨g6, KO⟩ := Prod.mk.inj KO
 obtain ⟨g7, KO⟩ := Prod.mk.inj KO
 obtain ⟨g8, KO⟩ := Prod.mk.inj KO
 obtain ⟨g9, KO⟩ := Prod.mk.inj KO
 obtain ⟨g10, KO⟩ := Prod.mk.inj KO
 obtain ⟨g11, KO⟩ := Prod.mk.inj KO
 obtain ⟨g12, KO⟩ := Prod.mk.inj KO
 obtain ⟨g13, KO⟩ := Prod.mk.inj KO
 obtain ⟨g14, KO⟩ := Prod.mk.inj KO
 obtain ⟨g15, KO⟩ := Prod.mk.inj KO
 obtain ⟨g16, KO⟩ := Prod.mk.inj KO
 obtain ⟨g17, KO⟩ := Prod.mk.inj KO
 obtain ⟨g18, KO⟩ := Prod.mk.inj KO
 obtain ⟨g19, KO⟩ := Prod.mk.inj KO
 obtain ⟨g20, KO⟩ := Prod.mk.inj KO
 obtain ⟨g21, KO⟩ := Prod.mk.inj KO
 obtain ⟨g22, KO⟩ := Prod.mk.inj KO
 obtain ⟨g23, KO⟩ := Prod.mk.inj KO
 have g24 := KO
 obtain ⟨h1, g0⟩ := List.cons.inj g0
 obtain ⟨h2, g0⟩ := List.cons.inj g0
 obtain ⟨h3, g0⟩ := List.cons.inj g0
 obtain ⟨h4, g0⟩ := List.cons.inj g0
 obtain ⟨h5, g0⟩ := List.cons.inj g0
 obtain ⟨h6, g0⟩ := List.cons.inj g0
 obtain ⟨h7, g0⟩ := List.cons.inj g0
 obtain ⟨h8, g0⟩ := List.cons.inj g0
 obtain ⟨h9, g1⟩ := List.cons.inj g1
 obtain ⟨h10, g1⟩ := List.cons.inj g1
 obtain ⟨h11, g1⟩ := List.cons.inj g1
 obtain ⟨h12, g1⟩ := List.cons.inj g1
 obtain ⟨h13, g1⟩ := List.cons.inj g1
 obtain ⟨h117, g1⟩ := List.cons.inj g1
 obtain ⟨h171, g1⟩ := List.cons.inj g1
 obtain ⟨h172, g1⟩ := List.cons.inj g1
 obtain ⟨h173, g2⟩ := List.cons.inj g2
 obtain ⟨h174, g2⟩ := List.cons.inj g2
 obtain ⟨h175, g2⟩ := List.cons.inj g2
 obtain ⟨h176, g2⟩ := List.cons.inj g2
 obtain ⟨h177, g2⟩ := List.cons.inj g2
 obtain ⟨h178, g2⟩ := List.cons.inj g2
 obtain ⟨h179, g2⟩ := List.cons.inj g2
 obtain ⟨h180, g2⟩ := List.cons.inj g2
 obtain ⟨h181, g3⟩ := List.cons.inj g3
 obtain ⟨h182, g3⟩ := List.cons.inj g3
 obtain ⟨h183, g3⟩ := List.cons.inj g3
 obtain ⟨h184, g3⟩ := List.cons.inj g3
 obtain ⟨h185, g3⟩ := List.cons.inj g3
 obtain ⟨h14, g4⟩ := List.cons.inj g4
 obtain ⟨h15, g4⟩ := List.cons.inj g4
 obtain ⟨h16, g4⟩ := List.cons.inj g4
 obtain ⟨h17, g4⟩ := List.cons.inj g4
 obtain ⟨h18, g4⟩ := List.cons.inj g4
 obtain ⟨h19, g4⟩ := List.cons.inj g4
 obtain ⟨h20, g4⟩ := List.cons.inj g4
 obtain ⟨h21, g4⟩ := List.cons.inj g4
 obtain ⟨h22, g5⟩ := List.cons.inj g5
 obtain ⟨h23, g5⟩ := List.cons.inj g5
 obtain ⟨h24, g5⟩ := List.cons.inj g5
 obtain ⟨h25, g5⟩ := List.cons.inj g5
 obtain ⟨h26, g5⟩ := List.cons.inj g5
 obtain ⟨h27, g5⟩ := List.cons.inj g5
 obtain ⟨h28, g5⟩ := List.cons.inj g5
 obtain ⟨h29, g5⟩ := List.cons.inj g5
 obtain ⟨h30, g6⟩ := List.cons.inj g6
 obtain ⟨h31, g6⟩ := List.cons.inj g6
 obtain ⟨h32, g6⟩ := List.cons.inj g6
 obtain ⟨h33, g6⟩ := List.cons.inj g6
 obtain ⟨h34, g6⟩ := List.cons.inj g6
 obtain ⟨h35, g6⟩ := List.cons.inj g6
 obtain ⟨h36, g6⟩ := List.cons.inj g6
 obtain ⟨h37, g6⟩ := List.cons.inj g6
 obtain ⟨h38, g7⟩ := List.cons.inj g7
 obtain ⟨h39, g7⟩ := List.cons.inj g7
 obtain ⟨h40, g7⟩ := List.cons.inj g7
 obtain ⟨h41, g7⟩ := List.cons.inj g7
 obtain ⟨h42, g7⟩ := List.cons.inj g7
 obtain ⟨h43, g7⟩ := List.cons.inj g7
 obtain ⟨h44, g7⟩ := List.cons.inj g7
 obtain ⟨h45, g7⟩ := List.cons.inj g7
 obtain ⟨h46, g8⟩ := List.cons.inj g8
 obtain ⟨h47, g8⟩ := List.cons.inj g8
 obtain ⟨h48, g8⟩ := List.cons.inj g8
 obtain ⟨h49, g8⟩ := List.cons.inj g8
 obtain ⟨h50, g8⟩ := List.cons.inj g8
 obtain ⟨h51, g8⟩ := List.cons.inj g8
 obtain ⟨h52, g8⟩ := List.cons.inj g8
 obtain ⟨h53, g8⟩ := List.cons.inj g8
 obtain ⟨h54, g9⟩ := List.cons.inj g9
 obtain ⟨h55, g9⟩ := List.cons.inj g9
 obtain ⟨h56, g9⟩ := List.cons.inj g9
 obtain ⟨h57, g9⟩ := List.cons.inj g9
 obtain ⟨h58, g9⟩ := List.cons.inj g9
 obtain ⟨h59, g9⟩ := List.cons.inj g9
 obtain ⟨h60, g9⟩ := List.cons.inj g9
 obtain ⟨h61, g9⟩ := List.cons.inj g9
 obtain ⟨h62, g10⟩ := List.cons.inj g10
 obtain ⟨h63, g10⟩ := List.cons.inj g10
 obtain ⟨h64, g10⟩ := List.cons.inj g10
 obtain ⟨h65, g10⟩ := List.cons.inj g10
 obtain ⟨h66, g10⟩ := List.cons.inj g10
 obtain ⟨h67, g10⟩ := List.cons.inj g10
 obtain ⟨h68, g10⟩ := List.cons.inj g10
 obtain ⟨h69, g10⟩ := List.cons.inj g10
 obtain ⟨h70, g11⟩ := List.cons.inj g11
 obtain ⟨h71, g11⟩ := List.cons.inj g11
 obtain ⟨h72, g11⟩ := List.cons.inj g11
 obtain ⟨h73, g11⟩ := List.cons.inj g11
 obtain ⟨h74, g11⟩ := List.cons.inj g11
 obtain ⟨h75, g11⟩ := List.cons.inj g11
 obtain ⟨h76, g11⟩ := List.cons.inj g11
 obtain ⟨h77, g11⟩ := List.cons.inj g11
 obtain ⟨h78, g12⟩ := List.cons.inj g12
 obtain ⟨h79, g12⟩ := List.cons.inj g12
 obtain ⟨h80, g12⟩ := List.cons.inj g12
 obtain ⟨h81, g12⟩ := List.cons.inj g12
 obtain ⟨h82, g12⟩ := List.cons.inj g12
 obtain ⟨h83, g12⟩ := List.cons.inj g12
 obtain ⟨h84, g12⟩ := List.cons.inj g12
 obtain ⟨h85, g12⟩ := List.cons.inj g12
 obtain ⟨h86, g13⟩ := List.cons.inj g13
 obtain ⟨h87, g13⟩ := List.cons.inj g13
 obtain ⟨h88, g13⟩ := List.cons.inj g13
 obtain ⟨h89, g13⟩ := List.cons.inj g13
 obtain ⟨h90, g13⟩ := List.cons.inj g13
 obtain ⟨h91, g14⟩ := List.cons.inj g14
 obtain ⟨h92, g14⟩ := List.cons.inj g14
 obtain ⟨h93, g14⟩ := List.cons.inj g14
 obtain ⟨h94, g14⟩ := List.cons.inj g14
 obtain ⟨h95, g14⟩ := List.cons.inj g14
 obtain ⟨h96, g14⟩ := List.cons.inj g14
 obtain ⟨h97, g14⟩ := List.cons.inj g14
 obtain ⟨h98, g14⟩ := List.cons.inj g14
 obtain ⟨h99, g15⟩ := List.cons.inj g15
 obtain ⟨h100, g15⟩ := List.cons.inj g15
 obtain ⟨h101, g15⟩ := List.cons.inj g15
 obtain ⟨h102, g15⟩ := List.cons.inj g15
 obtain ⟨h103, g15⟩ := List.cons.inj g15
 obtain ⟨h104, g15⟩ := List.cons.inj g15
 obtain ⟨h105, g15⟩ := List.cons.inj g15
 obtain ⟨h106, g15⟩ := List.cons.inj g15
 obtain ⟨h107, g16⟩ := List.cons.inj g16
 obtain ⟨h108, g16⟩ := List.cons.inj g16
 obtain ⟨h109, g16⟩ := List.cons.inj g16
 obtain ⟨h110, g16⟩ := List.cons.inj g16
 obtain ⟨h111, g16⟩ := List.cons.inj g16
 obtain ⟨h112, g16⟩ := List.cons.inj g16
 obtain ⟨h113, g16⟩ := List.cons.inj g16
 obtain ⟨h114, g16⟩ := List.cons.inj g16
 obtain ⟨h115, g17⟩ := List.cons.inj g17
 obtain ⟨h116, g17⟩ := List.cons.inj g17
 obtain ⟨h118, g17⟩ := List.cons.inj g17
 obtain ⟨h119, g17⟩ := List.cons.inj g17
 obtain ⟨h120, g17⟩ := List.cons.inj g17
 obtain ⟨h121, g17⟩ := List.cons.inj g17
 obtain ⟨h122, g17⟩ := List.cons.inj g17
 obtain ⟨h123, g17⟩ := List.cons.inj g17
 obtain ⟨h124, g18⟩ := List.cons.inj g18
 obtain ⟨h125, g18⟩ := List.cons.inj g18
 obtain ⟨h126, g18⟩ := List.cons.inj g18
 obtain ⟨h127, g18⟩ := List.cons.inj g18
 obtain ⟨h128, g18⟩ := List.cons.inj g18
 obtain ⟨h129, g18⟩ := List.cons.inj g18
 obtain ⟨h130, g18⟩ := List.cons.inj g18
 obtain ⟨h131, g18⟩ := List.cons.inj g18
 obtain ⟨h132, g19⟩ := List.cons.inj g19
 obtain ⟨h133, g19⟩ := List.cons.inj g19
 obtain ⟨h134, g19⟩ := List.cons.inj g19
 obtain ⟨h135, g19⟩ := List.cons.inj g19
 obtain ⟨h136, g19⟩ := List.cons.inj g19
 obtain ⟨h137, g19⟩ := List.cons.inj g19
 obtain ⟨h138, g19⟩ := List.cons.inj g19
 obtain ⟨h139, g19⟩ := List.cons.inj g19
 obtain ⟨h140, g20⟩ := List.cons.inj g20
 obtain ⟨h141, g20⟩ := List.cons.inj g20
 obtain ⟨h142, g20⟩ := List.cons.inj g20
 obtain ⟨h143, g20⟩ := List.cons.inj g20
 obtain ⟨h144, g20⟩ := List.cons.inj g20
 obtain ⟨h145, g20⟩ := List.cons.inj g20
 obtain ⟨h146, g20⟩ := List.cons.inj g20
 obtain ⟨h147, g20⟩ := List.cons.inj g20
 obtain ⟨h148, g21⟩ := List.cons.inj g21
 obtain ⟨h149, g21⟩ := List.cons.inj g21
 obtain ⟨h150, g21⟩ := List.cons.inj g21
 obtain ⟨h151, g21⟩ := List.cons.inj g21
 obtain ⟨h152, g21⟩ := List.cons.inj g21
 obtain ⟨h153, g21⟩ := List.cons.inj g21
 obtain ⟨h154, g21⟩ := List.cons.inj g21
 obtain ⟨h155, g21⟩ := List.cons.inj g21
 obtain ⟨h156, g22⟩ := List.cons.inj g22
 obtain ⟨h157, g22⟩ := List.cons.inj g22
 obtain ⟨h158, g22⟩ := List.cons.inj g22
 obtain ⟨h159, g22⟩ := List.cons.inj g22
 obtain ⟨h160, g22⟩ := List.cons.inj g22
 obtain ⟨h161, g22⟩ := List.cons.inj g22
 obtain ⟨h162, g22⟩ := List.cons.inj g22
 obtain ⟨h163, g22⟩ := List.cons.inj g22
 obtain ⟨h164, g23⟩ := List.cons.inj g23
 obtain ⟨h165, g24⟩ := List.cons.inj g24
 obtain ⟨h166, g24⟩ := List.cons.inj g24
 obtain ⟨h167, g24⟩ := List.cons.inj g24
 obtain ⟨h168, g24⟩ := List.cons.inj g24
 obtain ⟨h169, g24⟩ := List.cons.inj g24
 obtain ⟨h170, g24⟩ := List.cons.inj g24
 obtain ⟨AS, aC_Beach, pg_Beach, hd_Beach, po_Beach, sa_Beach, Of, kc_Beach, na_Beach⟩ := W2 h1
 obtain ⟨Dg, aC_BeachError, ex_BeachError⟩ := CL h2
 obtain ⟨Aw, aC_NoGate, ex_NoGate⟩ := CL h3
 obtain ⟨A2, aC_Taken, ex_Taken⟩ := CL h4
 obtain ⟨Ac, aC_UpsideDown, ex_UpsideDown⟩ := CL h5
 obtain ⟨Aa, aC_OutOfBounds, ex_OutOfBounds⟩ := CL h6
 obtain ⟨Ah, aC_BeachFull, ex_BeachFull⟩ := CL h7
 obtain ⟨Af, aC_DeedsFull, ex_DeedsFull⟩ := CL h8
 obtain ⟨Ab, aC_NothingBack, ex_NothingBack⟩ := CL h9
 obtain ⟨BW, aC_BadList, ex_BadList⟩ := CL h10
 obtain ⟨Bq, aC_TooFew, ex_TooFew⟩ := CL h11
 obtain ⟨A8, aC_WrongSize, ex_WrongSize⟩ := CL h12
 obtain ⟨BF, aC_BadThrow, ex_BadThrow⟩ := CL h13
 obtain ⟨f1, fd1, d1⟩ := Ag (ps := ["place", "height", "start", "end"]) X G h91 fun _ _ _ _ _ _ us hl => by obtain ⟨x0, x1, x2, x3, rfl⟩ := Pc hl; rfl
 obtain ⟨f2, fd2, d2⟩ := Ag (ps := ["one", "two", "three"]) X G h92 fun _ _ _ _ _ _ us hl => by obtain ⟨x0, x1, x2, rfl⟩ := Q5 hl; rfl
 obtain ⟨f3, fd3, d3⟩ := Ag (ps := ["gates"]) X G h93 fun _ _ _ _ _ _ us hl => by obtain ⟨x0, rfl⟩ := CZ hl; rfl
 obtain ⟨f4, fd4, d4⟩ := Ag (ps := ["one", "two"]) X G h94 fun _ _ _ _ _ _ us hl => by obtain ⟨x0, x1, rfl⟩ := C4 hl; rfl
 obtain ⟨f5, fd5, d5⟩ := Ag (ps := ["top", "bottom"]) X G h95 fun _ _ _ _ _ _ us hl => by obtain ⟨x0, x1, rfl⟩ := C4 hl; rfl
 obtain ⟨f6, fd6, d6⟩ := Ag (ps := ["one", "two"]) X G h96 fun _ _ _ _ _ _ us hl => by obtain ⟨x0, x1, rfl⟩ := C4 hl; rfl
 obtain ⟨f7, fd7, d7⟩ := Ag (ps := ["throw", "place"]) X G h97 fun _ _ _ _ _ _ us hl => by obtain ⟨x0, x1, rfl⟩ := C4 hl; rfl
 obtain ⟨f8, fd8, d8⟩ := Ag (ps := ["place", "height", "other", "second"]) X G h98 fun _ _ _ _ _ _ us hl => by obtain ⟨x0, x1, x2, x3, rfl⟩ := Pc hl; rfl
 obtain ⟨f9, fd9, d9⟩ := Ag (ps := ["throw", "gate"]) X G h99 fun _ _ _ _ _ _ us hl => by obtain ⟨x0, x1, rfl⟩ := C4 hl; rfl
 obtain ⟨f10, fd10, d10⟩ := Ag (ps := ["throw", "gates"]) X G h100 fun _ _ _ _ _ _ us hl => by obtain ⟨x0, x1, rfl⟩ := C4 hl; rfl
 obtain ⟨f11, fd11, d11⟩ := Ag (ps := ["throw", "ordered"]) X G h101 fun _ _ _ _ _ _ us hl => by obtain ⟨x0, x1, rfl⟩ := C4 hl; rfl
 obtain ⟨f12, fd12, d12⟩ := Ag (ps := ["earlier", "later"]) X G h102 fun _ _ _ _ _ _ us hl => by obtain ⟨x0, x1, rfl⟩ := C4 hl; rfl
 obtain ⟨f13, fd13, d13⟩ := Ag (ps := ["ordered"]) X G h103 fun _ _ _ _ _ _ us hl => by obtain ⟨x0, rfl⟩ := CZ hl; rfl
 obtain ⟨f14, fd14, d14⟩ := Ag (ps := ["ordered"]) X G h104 fun _ _ _ _ _ _ us hl => by obtain ⟨x0, rfl⟩ := CZ hl; rfl
 obtain ⟨f15, fd15, d15⟩ := Ag (ps := ["height"]) X G h105 fun _ _ _ _ _ _ us hl => by obtain ⟨x0, rfl⟩ := CZ hl; rfl
 obtain ⟨f16, fd16, d16⟩ := Ag (ps := ["ordered"]) X G h106 fun _ _ _ _ _ _ us hl => by obtain ⟨x0, rfl⟩ := CZ hl; rfl
 obtain ⟨f17, fd17, d17⟩ := Ag (ps := ["gates"]) X G h107 fun _ _ _ _ _ _ us hl => by obtain ⟨x0, rfl⟩ := CZ hl; rfl
 obtain ⟨f18, fd18, d18⟩ := Ag (ps := ["gates"]) X G h108 fun _ _ _ _ _ _ us hl => by obtain ⟨x0, rfl⟩ := CZ hl; rfl
 obtain ⟨f19, fd19, d19⟩ := Ag (ps := ["gates"]) X G h109 fun _ _ _ _ _ _ us hl => by obtain ⟨x0, rfl⟩ := CZ hl; rfl
 obtain ⟨f20, fd20, d20⟩ := Ag (ps := ["gate"]) X G h110 fun _ _ _ _ _ _ us hl => by obtain ⟨x0, rfl⟩ := CZ hl; rfl
 obtain ⟨f21, fd21, d21⟩ := Ag (ps := ["throw"]) X G h111 fun _ _ _ _ _ _ us hl => by obtain ⟨x0, rfl⟩ := CZ hl; rfl
 obtain ⟨f22, fd22, d22⟩ := Ag (ps := ["gates"]) X G h112 fun _ _ _ _ _ _ us hl => by obtain ⟨x0, rfl⟩ := CZ hl; rfl
 obtain ⟨f23, fd23, d23⟩ := Ag (ps := ["run", "throw"]) X G h113 fun _ _ _ _ _ _ us hl => by obtain ⟨x0, x1, rfl⟩ := C4 hl; rfl
 obtain ⟨f24, fd24, d24⟩ := Ag (ps := ["gates"]) X G h114 fun _ _ _ _ _ _ us hl => by obtain ⟨x0, rfl⟩ := CZ hl; rfl
 obtain ⟨f25, fd25, d25⟩ := Ag (ps := ["ordered"]) X G h115 fun _ _ _ _ _ _ us hl => by obtain ⟨x0, rfl⟩ := CZ hl; rfl
 obtain ⟨f26, fd26, d26⟩ := Ag (ps := ["gates"]) X G h116 fun _ _ _ _ _ _ us hl => by obtain ⟨x0, rfl⟩ := CZ hl; rfl
 obtain ⟨c26, la26, isT⟩ := LM.XI X G d26 h117
 obtain ⟨f27, fd27, d27⟩ := Ag (ps := ["gate"]) X G h118 fun _ _ _ _ _ _ us hl => by obtain ⟨x0, rfl⟩ := CZ hl; rfl
 obtain ⟨f28, fd28, d28⟩ := Ag (ps := ["places"]) X G h119 fun _ _ _ _ _ _ us hl => by obtain ⟨x0, rfl⟩ := CZ hl; rfl
 obtain ⟨f29, fd29, d29⟩ := Ag (ps := ["throw"]) X G h120 fun _ _ _ _ _ _ us hl => by obtain ⟨x0, rfl⟩ := CZ hl; rfl
 obtain ⟨f30, fd30, d30⟩ := Bt (ps := ["self"]) aC_Beach h121 fun _ _ _ _ _ _ us hl => by obtain ⟨x0, rfl⟩ := CZ hl; rfl
 obtain ⟨f31, fd31, d31⟩ := Bt (ps := ["self", "place"]) aC_Beach h122 fun _ _ _ _ _ _ us hl => by obtain ⟨x0, x1, rfl⟩ := C4 hl; rfl
 obtain ⟨f32, fd32, d32⟩ := Bt (ps := ["self", "place"]) aC_Beach h123 fun _ _ _ _ _ _ us hl => by obtain ⟨x0, x1, rfl⟩ := C4 hl; rfl
 obtain ⟨f33, fd33, d33⟩ := Bt (ps := ["self", "place", "instead"]) aC_Beach h124 fun _ _ _ _ _ _ us hl => by obtain ⟨x0, x1, x2, rfl⟩ := Q5 hl; rfl
 obtain ⟨f34, fd34, d34⟩ := Bt (ps := ["self", "place", "foot", "head"]) aC_Beach h125 fun _ _ _ _ _ _ us hl => by obtain ⟨x0, x1, x2, x3, rfl⟩ := Pc hl; rfl
 obtain ⟨f35, fd35, d35⟩ := Bt (ps := ["self", "place"]) aC_Beach h126 fun _ _ _ _ _ _ us hl => by obtain ⟨x0, x1, rfl⟩ := C4 hl; rfl
 obtain ⟨f36, fd36, d36⟩ := Bt (ps := ["self", "place", "foot_by", "head_by"]) aC_Beach h127 fun _ _ _ _ _ _ us hl => by obtain ⟨x0, x1, x2, x3, rfl⟩ := Pc hl; rfl
 obtain ⟨f37, fd37, d37⟩ := Bt (ps := ["self", "place", "foot_by", "head_by"]) aC_Beach h128 fun _ _ _ _ _ _ us hl => by obtain ⟨x0, x1, x2, x3, rfl⟩ := Pc hl; rfl
 obtain ⟨f38, fd38, d38⟩ := Xm (ps := ["self", "many"]) aC_Beach h129 (fun s d _ _ _ _ _ _ _ _ _ _ _ us ho hl => by obtain ⟨x0, x1, rfl⟩ := C4 hl; exact BindsTo.of_defaults (T := d) rfl ho rfl rfl rfl) (fun s d _ _ _ _ _ _ _ _ _ _ _ us ho hl => by obtain ⟨x0, rfl⟩ := CZ (Nat.succ.inj hl); exact BindsTo.of_defaults (T := d) rfl ho rfl rfl rfl)
 obtain ⟨f39, fd39, d39⟩ := Bt (ps := ["self"]) aC_Beach h130 fun _ _ _ _ _ _ us hl => by obtain ⟨x0, rfl⟩ := CZ hl; rfl
 obtain ⟨f40, fd40, d40⟩ := Bt (ps := ["self"]) aC_Beach h131 fun _ _ _ _ _ _ us hl => by obtain ⟨x0, rfl⟩ := CZ hl; rfl
 obtain ⟨f41, fd41, d41⟩ := Bt (ps := ["self", "places"]) aC_Beach h132 fun _ _ _ _ _ _ us hl => by obtain ⟨x0, x1, rfl⟩ := C4 hl; rfl
 obtain ⟨f42, fd42, d42⟩ := Bt (ps := ["self", "places"]) aC_Beach h133 fun _ _ _ _ _ _ us hl => by obtain ⟨x0, x1, rfl⟩ := C4 hl; rfl
 obtain ⟨f43, fd43, d43⟩ := Bt (ps := ["self", "places"]) aC_Beach h134 fun _ _ _ _ _ _ us hl => by obtain ⟨x0, x1, rfl⟩ := C4 hl; rfl
 obtain ⟨f44, fd44, d44⟩ := Bt (ps := ["self", "places"]) aC_Beach h135 fun _ _ _ _ _ _ us hl => by obtain ⟨x0, x1, rfl⟩ := C4 hl; rfl
 obtain ⟨f45, fd45, d45⟩ := Bt (ps := ["self", "places"]) aC_Beach h136 fun _ _ _ _ _ _ us hl => by obtain ⟨x0, x1, rfl⟩ := C4 hl; rfl
 obtain ⟨f46, fd46, d46⟩ := Bt (ps := ["self"]) aC_Beach h137 fun _ _ _ _ _ _ us hl => by obtain ⟨x0, rfl⟩ := CZ hl; rfl
 obtain ⟨f47, fd47, d47⟩ := Bt (ps := ["self"]) aC_Beach h138 fun _ _ _ _ _ _ us hl => by obtain ⟨x0, rfl⟩ := CZ hl; rfl
 obtain ⟨f48, fd48, d48⟩ := Bt (ps := ["self", "throw"]) aC_Beach h139 fun _ _ _ _ _ _ us hl => by obtain ⟨x0, x1, rfl⟩ := C4 hl; rfl
 obtain ⟨f49, fd49, d49⟩ := Ag (ps := ["_law_script", "_law_k"]) X G h140 fun _ _ _ _ _ _ us hl => by obtain ⟨x0, x1, rfl⟩ := C4 hl; rfl
 obtain ⟨f50, fd50, d50⟩ := Ag (ps := ["_law_cell", "_law_many", "_law_mixed"]) X G h141 fun _ _ _ _ _ _ us hl => by obtain ⟨x0, x1, x2, rfl⟩ := Q5 hl; rfl
 obtain ⟨f51, fd51, d51⟩ := Ag (ps := ["_law_kind", "_law_line", "_law_wide", "_law_low", "_law_high"]) X G h142 fun _ _ _ _ _ _ us hl => by obtain ⟨x0, x1, x2, x3, x4, rfl⟩ := len5 hl; rfl
 obtain ⟨f52, fd52, d52⟩ := Ag (ps := ["_law_script", "_law_at_here", "_law_many"]) X G h143 fun _ _ _ _ _ _ us hl => by obtain ⟨x0, x1, x2, rfl⟩ := Q5 hl; rfl
 obtain ⟨f53, fd53, d53⟩ := Ag (ps := ["_law_found"]) X G h144 fun _ _ _ _ _ _ us hl => by obtain ⟨x0, rfl⟩ := CZ hl; rfl
 obtain ⟨f54, fd54, d54⟩ := Ag (ps := ["_law_found", "_law_due"]) X G h145 fun _ _ _ _ _ _ us hl => by obtain ⟨x0, x1, rfl⟩ := C4 hl; rfl
 obtain ⟨f55, fd55, d55⟩ := Ag (ps := ["_law_stands", "_law_deed_here"]) X G h146 fun _ _ _ _ _ _ us hl => by obtain ⟨x0, x1, rfl⟩ := C4 hl; rfl
 obtain ⟨f56, fd56, d56⟩ := Ag (ps := ["_law_stands", "_law_past", "_law_deed_here"]) X G h147 fun _ _ _ _ _ _ us hl => by obtain ⟨x0, x1, x2, rfl⟩ := Q5 hl; rfl
 obtain ⟨f57, fd57, d57⟩ := Ag (ps := ["_law_beach", "_law_deed_here"]) X G h148 fun _ _ _ _ _ _ us hl => by obtain ⟨x0, x1, rfl⟩ := C4 hl; rfl
 obtain ⟨f58, fd58, d58⟩ := Ag (ps := ["_law_stands", "_law_past", "_law_deed_here"]) X G h149 fun _ _ _ _ _ _ us hl => by obtain ⟨x0, x1, x2, rfl⟩ := Q5 hl; rfl
 obtain ⟨f59, fd59, d59⟩ := Ag (ps := ["_law_beach", "_law_stands", "_law_past", "_law_deed_here"]) X G h150 fun _ _ _ _ _ _ us hl => by obtain ⟨x0, x1, x2, x3, rfl⟩ := Pc hl; rfl
 obtain ⟨f60, fd60, d60⟩ := Ag (ps := ["_law_script"]) X G h151 fun _ _ _ _ _ _ us hl => by obtain ⟨x0, rfl⟩ := CZ hl; rfl
 obtain ⟨f61, fd61, d61⟩ := Ag (ps := ["_law_beach", "_law_stands", "_law_past", "_law_script", "_law_most"]) X G h152 fun _ _ _ _ _ _ us hl => by obtain ⟨x0, x1, x2, x3, x4, rfl⟩ := len5 hl; rfl
 obtain ⟨f62, fd62, d62⟩ := Ag (ps := ["_law_draw"]) X G h153 fun _ _ _ _ _ _ us hl => by obtain ⟨x0, rfl⟩ := CZ hl; rfl
 obtain ⟨f63, fd63, d63⟩ := Ag (ps := ["_law_script", "_law_k", "_law_stands", "_law_past"]) X G h154 fun _ _ _ _ _ _ us hl => by obtain ⟨x0, x1, x2, x3, rfl⟩ := Pc hl; rfl
 obtain ⟨f64, fd64, d64⟩ := Ag (ps := ["_law_script", "_law_k", "_law_stands", "_law_most"]) X G h155 fun _ _ _ _ _ _ us hl => by obtain ⟨x0, x1, x2, x3, rfl⟩ := Pc hl; rfl
 obtain ⟨f65, fd65, d65⟩ := Ag (ps := ["_law_one", "_law_two"]) X G h156 fun _ _ _ _ _ _ us hl => by obtain ⟨x0, x1, rfl⟩ := C4 hl; rfl
 obtain ⟨f66, fd66, d66⟩ := Ag (ps := ["_law_found"]) X G h157 fun _ _ _ _ _ _ us hl => by obtain ⟨x0, rfl⟩ := CZ hl; rfl
 obtain ⟨f67, fd67, d67⟩ := Ag (ps := ["_law_throw_here", "_law_place", "_law_height"]) X G h158 fun _ _ _ _ _ _ us hl => by obtain ⟨x0, x1, x2, rfl⟩ := Q5 hl; rfl
 obtain ⟨f68, fd68, d68⟩ := Ag (ps := ["_law_throw_here", "_law_gate"]) X G h159 fun _ _ _ _ _ _ us hl => by obtain ⟨x0, x1, rfl⟩ := C4 hl; rfl
 obtain ⟨f69, fd69, d69⟩ := Ag (ps := ["_law_found", "_law_due"]) X G h160 fun _ _ _ _ _ _ us hl => by obtain ⟨x0, x1, rfl⟩ := C4 hl; rfl
 obtain ⟨f70, fd70, d70⟩ := Ag (ps := ["_law_stands"]) X G h161 fun _ _ _ _ _ _ us hl => by obtain ⟨x0, rfl⟩ := CZ hl; rfl
 obtain ⟨f71, fd71, d71⟩ := Ag (ps := ["_law_beach", "_law_stands", "_law_throw_here", "_law_places"]) X G h162 fun _ _ _ _ _ _ us hl => by obtain ⟨x0, x1, x2, x3, rfl⟩ := Pc hl; rfl
 obtain ⟨f72, fd72, d72⟩ := Ag (ps := ["_law_beach", "_law_stands", "_law_places"]) X G h163 fun _ _ _ _ _ _ us hl => by obtain ⟨x0, x1, x2, rfl⟩ := Q5 hl; rfl
 obtain ⟨f73, oc, od, sl, kV, dc, pm, an, cd, ct, a, l, c, k⟩ := T2 h164
 obtain ⟨t_LEAST, ak_LEAST⟩ := IY h165
 obtain ⟨t_GREATEST, ak_GREATEST⟩ := IY h166
 obtain ⟨t_MOST_GATES, ak_MOST_GATES⟩ := IY h167
 obtain ⟨t_MOST_DEEDS, ak_MOST_DEEDS⟩ := IY h168
 obtain ⟨t_SMALL_BEACH, ak_SMALL_BEACH⟩ := IY h169
 obtain ⟨t_GREAT_NUMBER, ak_GREAT_NUMBER⟩ := IY h170
 have e := hfa.symm.trans (PySem.W.mg_of X G a)
 cases e
 let T : Tx K mg := ⟨AS,
  PySem.W.mg_of X G aC_Beach,
  ⟨pg_Beach, hd_Beach, po_Beach, sa_Beach⟩,
  na_Beach "standing" (by simp only [List.mem_cons, true_or, or_true]),
  na_Beach "past" (by simp only [List.mem_cons, true_or, or_true]),
  Dg,
  PySem.W.mg_of X G aC_BeachError,
  ex_BeachError,
  Aw,
  PySem.W.mg_of X G aC_NoGate,
  ex_NoGate,
  A2,
  PySem.W.mg_of X G aC_Taken,
  ex_Taken,
  Ac,
  PySem.W.mg_of X G aC_UpsideDown,
  ex_UpsideDown,
  Aa,
  PySem.W.mg_of X G aC_OutOfBounds,
  ex_OutOfBounds,
  Ah,
  PySem.W.mg_of X G aC_BeachFull,
  ex_BeachFull,
  Af,
  PySem.W.mg_of X G aC_DeedsFull,
  ex_DeedsFull,
  Ab,
  PySem.W.mg_of X G aC_NothingBack,
  ex_NothingBack,
  BW,
  PySem.W.mg_of X G aC_BadList,
  ex_BadList,
  Bq,
  PySem.W.mg_of X G aC_TooFew,
  ex_TooFew,
  A8,
  PySem.W.mg_of X G aC_WrongSize,
  ex_WrongSize,
  BF,
  PySem.W.mg_of X G aC_BadThrow,
  ex_BadThrow,
  AR aC_NoGate aC_NoGate h14,
  AR aC_NoGate aC_Taken h15,
  AR aC_NoGate aC_UpsideDown h16,
  AR aC_NoGate aC_OutOfBounds h17,
  AR aC_NoGate aC_BeachFull h18,
  AR aC_NoGate aC_DeedsFull h19,
  AR aC_NoGate aC_NothingBack h20,
  AR aC_Taken aC_NoGate h21,
  AR aC_Taken aC_Taken h22,
  AR aC_Taken aC_UpsideDown h23,
  AR aC_Taken aC_OutOfBounds h24,
  AR aC_Taken aC_BeachFull h25,
  AR aC_Taken aC_DeedsFull h26,
  AR aC_Taken aC_NothingBack h27,
  AR aC_UpsideDown aC_NoGate h28,
  AR aC_UpsideDown aC_Taken h29,
  AR aC_UpsideDown aC_UpsideDown h30,
  AR aC_UpsideDown aC_OutOfBounds h31,
  AR aC_UpsideDown aC_BeachFull h32,
  AR aC_UpsideDown aC_DeedsFull h33,
  AR aC_UpsideDown aC_NothingBack h34,
  AR aC_OutOfBounds aC_NoGate h35,
  AR aC_OutOfBounds aC_Taken h36,
  AR aC_OutOfBounds aC_UpsideDown h37,
  AR aC_OutOfBounds aC_OutOfBounds h38,
  AR aC_OutOfBounds aC_BeachFull h39,
  AR aC_OutOfBounds aC_DeedsFull h40,
  AR aC_OutOfBounds aC_NothingBack h41,
  AR aC_BeachFull aC_NoGate h42,
  AR aC_BeachFull aC_Taken h43,
  AR aC_BeachFull aC_UpsideDown h44,
  AR aC_BeachFull aC_OutOfBounds h45,
  AR aC_BeachFull aC_BeachFull h46,
  AR aC_BeachFull aC_DeedsFull h47,
  AR aC_BeachFull aC_NothingBack h48,
  AR aC_DeedsFull aC_NoGate h49,
  AR aC_DeedsFull aC_Taken h50,
  AR aC_DeedsFull aC_UpsideDown h51,
  AR aC_DeedsFull aC_OutOfBounds h52,
  AR aC_DeedsFull aC_BeachFull h53,
  AR aC_DeedsFull aC_DeedsFull h54,
  AR aC_DeedsFull aC_NothingBack h55,
  AR aC_NothingBack aC_NoGate h56,
  AR aC_NothingBack aC_Taken h57,
  AR aC_NothingBack aC_UpsideDown h58,
  AR aC_NothingBack aC_OutOfBounds h59,
  AR aC_NothingBack aC_BeachFull h60,
  AR aC_NothingBack aC_DeedsFull h61,
  AR aC_NothingBack aC_NothingBack h62,
  AR aC_BadList aC_NoGate h63,
  AR aC_BadList aC_Taken h64,
  AR aC_BadList aC_UpsideDown h65,
  AR aC_BadList aC_OutOfBounds h66,
  AR aC_BadList aC_BeachFull h67,
  AR aC_BadList aC_DeedsFull h68,
  AR aC_BadList aC_NothingBack h69,
  AR aC_TooFew aC_NoGate h70,
  AR aC_TooFew aC_Taken h71,
  AR aC_TooFew aC_UpsideDown h72,
  AR aC_TooFew aC_OutOfBounds h73,
  AR aC_TooFew aC_BeachFull h74,
  AR aC_TooFew aC_DeedsFull h75,
  AR aC_TooFew aC_NothingBack h76,
  AR aC_WrongSize aC_NoGate h77,
  AR aC_WrongSize aC_Taken h78,
  AR aC_WrongSize aC_UpsideDown h79,
  AR aC_WrongSize aC_OutOfBounds h80,
  AR aC_WrongSize aC_BeachFull h81,
  AR aC_WrongSize aC_DeedsFull h82,
  AR aC_WrongSize aC_NothingBack h83,
  AR aC_BadThrow aC_NoGate h84,
  AR aC_BadThrow aC_Taken h85,
  AR aC_BadThrow aC_UpsideDown h86,
  AR aC_BadThrow aC_OutOfBounds h87,
  AR aC_BadThrow aC_BeachFull h88,
  AR aC_BadThrow aC_DeedsFull h89,
  AR aC_BadThrow aC_NothingBack h90,
  f1, fd1, d1,
  f2, fd2, d2,
  f3, fd3, d3,
  f4, fd4, d4,
  f5, fd5, d5,
  f6, fd6, d6,
  f7, fd7, d7,
  f8, fd8, d8,
  f9, fd9, d9,
  f10, fd10, d10,
  f11, fd11, d11,
  f12, fd12, d12,
  f13, fd13, d13,
  f14, fd14, d14,
  f15, fd15, d15,
  f16, fd16, d16,
  f17, fd17, d17,
  f18, fd18, d18,
  f19, fd19, d19,
  f20, fd20, d20,
  f21, fd21, d21,
  f22, fd22, d22,
  f23, fd23, d23,
  f24, fd24, d24,
  f25, fd25, d25,
  f26, fd26, d26,
  c26, la26,
  f27, fd27, d27,
  f28, fd28, d28,
  f29, fd29, d29,
  f30, fd30, d30,
  f31, fd31, d31,
  f32, fd32, d32,
  f33, fd33, d33,
  f34, fd34, d34,
  f35, fd35, d35,
  f36, fd36, d36,
  f37, fd37, d37,
  f38, fd38, d38,
  f39, fd39, d39,
  f40, fd40, d40,
  f41, fd41, d41,
  f42, fd42, d42,
  f43, fd43, d43,
  f44, fd44, d44,
  f45, fd45, d45,
  f46, fd46, d46,
  f47, fd47, d47,
  f48, fd48, d48,
  f49, fd49, d49,
  f50, fd50, d50,
  f51, fd51, d51,
  f52, fd52, d52,
  f53, fd53, d53,
  f54, fd54, d54,
  f55, fd55, d55,
  f56, fd56, d56,
  f57, fd57, d57,
  f58, fd58, d58,
  f59, fd59, d59,
  f60, fd60, d60,
  f61, fd61, d61,
  f62, fd62, d62,
  f63, fd63, d63,
  f64, fd64, d64,
  f65, fd65, d65,
  f66, fd66, d66,
  f67, fd67, d67,
  f68, fd68, d68,
  f69, fd69, d69,
  f70, fd70, d70,
  f71, fd71, d71,
  f72, fd72, d72,
  _, _, ⟨MR l c k, PySem.W.mg_of X G a, (MR l c k).binds (ps := ["_law_script"]) fun _ _ _ _ _ _ us hl => by obtain ⟨x0, rfl⟩ := CZ hl; rfl⟩,
  ⟨Of, d30.mt.1, d30.mt.2, kc_Beach⟩,
  _,
  PySem.W.mg_of X G ak_LEAST,
  ⟨_, rfl⟩,
  _,
  PySem.W.mg_of X G ak_GREATEST,
  ⟨_, rfl⟩,
  _,
  PySem.W.mg_of X G ak_MOST_GATES,
  ⟨_, rfl⟩,
  _,
  PySem.W.mg_of X G ak_MOST_DEEDS,
  ⟨_, rfl⟩,
  _,
  PySem.W.mg_of X G ak_SMALL_BEACH,
  ⟨_, rfl⟩,
  _,
  PySem.W.mg_of X G ak_GREAT_NUMBER,
  ⟨_, rfl⟩,
  PySem.W.mg_none_of X G (Bo h171),
  PySem.W.mg_none_of X G (Bo h172),
  PySem.W.mg_none_of X G (Bo h173),
  PySem.W.mg_none_of X G (Bo h174),
  PySem.W.mg_none_of X G (Bo h175),
  PySem.W.mg_none_of X G (Bo h176),
  PySem.W.mg_none_of X G (Bo h177),
  PySem.W.mg_none_of X G (Bo h178),
  PySem.W.mg_none_of X G (Bo h179),
  PySem.W.mg_none_of X G (Bo h180),
  PySem.W.mg_none_of X G (Bo h181),
  PySem.W.mg_none_of X G (Bo h182),
  PySem.W.mg_none_of X G (Bo h183),
  PySem.W.mg_none_of X G (Bo h184),
  PySem.W.mg_none_of X G (Bo h185)⟩
 exact ⟨_, fun s v => .of_eq rfl, isT, fun base _ _ => bY T⟩
end TG
open PySem PySem.W PyProof.Rows
set_option maxRecDepth 100000 in
set_option maxHeartbeats 0 in
theorem PySem.Challenge.cw_throwgate_k45_whole_told_again_holds : PySem.Challenge.rw_throwgate_k45_whole_told_again.Holds := by
 w_on; o_law
 refine holds_open (q := TG.qv) (loose := TG.L7) (Xt := fun _ => true) (XP := fun _ _ => True) (Yf := fun s => (LM.Hh (s.heap.get? TG.Fk), TG.Td (TG.Kof TG.addrs s.heap))) (Ya := fun _ => (true, TG.Ui)) (YP := LM.LY TG.Fk TG.addrs TG.Td TG.Ui) (N := 10508) TG.left (fun w s e => LM.LY.of (by decide) w s e) LM.LY.keeps (fun _ _ => trivial) (fun _ _ _ _ _ => trivial) (by rfl) (by rfl) (by rfl) (fun _ _ => TG.Z6 rfl) rfl (by assumption) (by decide +kernel) ⟨rfl, rfl, rfl, rfl, rfl, by decide +kernel⟩ ?hw ?hc
 case hw => w_witness2
 case hc =>
  exact LM.V2 (T := TG.Fk) (l := PySem.Challenge.rw_throwgate_k45_whole_told_again) (n := 63) (k := 11) (x := "_law_script") (CX := L2.CX0) (sp := TG.Tl) rfl (by decide) rfl ⟨rfl, by decide, by decide⟩ (fun w mg fa h K KO KX G hmg => TG.bW KO KX G hmg) (fun _ _ a ns hl hO hS => ⟨a, ns, rfl, hS, hl, .inl hO.1, fun _ => rfl⟩) fun _ _ _ _ z => z
