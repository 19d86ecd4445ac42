import PyProof.Rows.All
import Wide.All
import OpenK.AllK
import Wide.FinOn
import Lean
import PyProof.EqAt
import PyProof.EqKinds
import PyProof.TupleCall
import KE.KMinKey
import PySem.Challenge.RW_throwgate_k28_own_lists
set_option bootstrap.genMatcherCode false
set_option genSizeOf false
set_option compiler.small 0
set_option Elab.async false
set_option linter.all false
set_option maxRecDepth 100000
namespace L2
open PySem PySem.Spec PyProof.Rows
abbrev Key := Sum Int Str
def MU : Key → Value → Bool
 | .inl k, v => Value.isInt k v
 | .inr x, v => Value.isStrOf x v
def keyH (w : World) : Key → Int
 | .inl k => hashInt k
 | .inr x => hashStr w x
theorem BC : ∀ {k : Key} {v : Value}, MU k v = true → (∃ i t, k = Sum.inl i ∧ v = Value.int i t) ∨ (∃ x t, k = Sum.inr x ∧ v = Value.str x t)
 | .inl i, v, h => by
  obtain ⟨t, e⟩ := Value.isInt_shape (k := i) (v := v) h
  exact .inl ⟨i, t, rfl, e⟩
 | .inr x, v, h => by
  obtain ⟨t, e⟩ := Value.isStrOf_shape (x := x) (v := v) h
  exact .inr ⟨x, t, rfl, e⟩
theorem QO (i : Int) (t : Tok) : MU (.inl i) (.int i t) = true := by simp [MU, Value.isInt]
theorem Qa (x : Str) (t : Tok) : MU (.inr x) (.str x t) = true := by simp [MU, Value.isStrOf]
theorem Vn (a b : Int) : decide ((Sum.inl a : Key) = Sum.inl b) = (a == b) := by
 by_cases e : a = b
 ·subst e; simp
 ·have h : ¬ (Sum.inl a : Key) = Sum.inl b := fun q => e (Sum.inl.inj q)
  rw [decide_eq_false h]
  exact (beq_eq_false_iff_ne.mpr e).symm
theorem Ud (a b : Str) : decide ((Sum.inr a : Key) = Sum.inr b) = decide (a = b) := by
 by_cases e : a = b
 ·subst e; simp
 ·have h : ¬ (Sum.inr a : Key) = Sum.inr b := fun q => e (Sum.inr.inj q)
  rw [decide_eq_false h, decide_eq_false e]
theorem V1 (a : Int) (b : Str) : decide ((Sum.inl a : Key) = Sum.inr b) = false := decide_eq_false (fun q => nomatch q)
theorem WD (a : Str) (b : Int) : decide ((Sum.inr a : Key) = Sum.inl b) = false := decide_eq_false (fun q => nomatch q)
def Bj (prog : Program) (w : World) : PySem.KeyKind prog w Key where
 is := MU
 hash := keyH w
 inj := fun v a b ha hb => by
  rcases BC ha with ⟨i, t, rfl, rfl⟩ | ⟨x, t, rfl, rfl⟩
  ·rcases BC hb with ⟨j, u, rfl, e⟩ | ⟨y, u, rfl, e⟩
   ·injection e with e1 _; rw [e1]
   ·exact nomatch e
  ·rcases BC hb with ⟨j, u, rfl, e⟩ | ⟨y, u, rfl, e⟩
   ·exact nomatch e
   ·injection e with e1 _; rw [e1]
 byValue := fun k v h => by
  rcases BC h with ⟨i, t, rfl, rfl⟩ | ⟨x, t, rfl, rfl⟩ <;> rfl
 pyHash := fun hv h => by
  rcases BC hv with ⟨i, t, rfl, rfl⟩ | ⟨x, t, rfl, rfl⟩
  ·exact wpAny_pyHash_int h
  ·exact wpAny_pyHash_str h
 eqBool := fun hu hv h => by
  rcases BC hu with ⟨i, t, rfl, rfl⟩ | ⟨x, t, rfl, rfl⟩
  ·rcases BC hv with ⟨j, u, rfl, rfl⟩ | ⟨y, u, rfl, rfl⟩
   ·rw [Vn] at h; exact wpAny_eqBool_int h
   ·rw [V1] at h; exact SeqAt.EqAt.int_str i t y u _ _ _ _ h
  ·rcases BC hv with ⟨j, u, rfl, rfl⟩ | ⟨y, u, rfl, rfl⟩
   ·rw [WD] at h; exact SeqAt.EqAt.str_int x t j u _ _ _ _ h
   ·rw [Ud] at h; exact wpAny_eqBool_str h
 «strs» := fun k x t v h => by
  rcases BC h with ⟨i, u, rfl, e⟩ | ⟨y, u, rfl, e⟩
  ·exact nomatch e
  ·injection e with e1 _
   subst e1
   cases v <;> rfl
theorem Nn (prog : Program) (w : World) (i : Int) (t : Tok) : (Bj prog w).is (.inl i) (.int i t) = true := QO i t
theorem N2 (prog : Program) (w : World) (x : Str) (t : Tok) : (Bj prog w).is (.inr x) (.str x t) = true := Qa x t
end L2
namespace L2
open PySem PySem.Spec PyProof.Rows
inductive V where
 | non | bl (b : Bool) | int (i : Int) | str (x : Str) | byt (b : Array UInt8) | flt (b : UInt64) | ref (a : Addr) | ty (n : String)
 deriving DecidableEq
def RelV : V → Value → Prop
 | .non, u => u = Value.none
 | .bl b, u => u = Value.bool b
 | .int i, u => ∃ t, u = Value.int i t
 | .str x, u => ∃ t, u = Value.str x t
 | .byt b, u => ∃ t, u = Value.bytes b t
 | .flt b, u => ∃ t, u = Value.float b t
 | .ref a, u => u = Value.ref a
 | .ty n, u => u = Value.type n
abbrev Ag : List V → List Value → Prop := Paired RelV
theorem Ag.length {xs : List V} {us : List Value} (r : Ag xs us) : xs.length = us.length := Paired.length r
theorem Ag.get : ∀ {xs : List V} {us : List Value} {i : Nat} {x : V}, Ag xs us → xs[i]? = some x → ∃ u, us[i]? = some u ∧ RelV x u
 | _, _, _, _, .nil, e => by simp at e
 | _, _, 0, _, .cons r _, e => by simp at e; subst e; exact ⟨_, rfl, r⟩
 | _, _, i + 1, x, .cons _ t, e => by
  obtain ⟨u, h1, h2⟩ := Ag.get (i := i) (x := x) t (by simpa using e)
  exact ⟨u, by simpa using h1, h2⟩
theorem Ag.set {x : V} {u : Value} (r : RelV x u) : ∀ {xs : List V} {us : List Value} (i : Nat), Ag xs us → Ag (xs.set i x) (us.set i u)
 | _, _, _, .nil => .nil
 | _, _, 0, .cons _ t => .cons r t
 | _, _, i + 1, .cons q t => .cons q (Ag.set r i t)
theorem Ag.append : ∀ {xs ys : List V} {us ws : List Value}, Ag xs us → Ag ys ws → Ag (xs ++ ys) (us ++ ws)
 | _, _, _, _, .nil, s => s
 | _, _, _, _, .cons r t, s => .cons r (Ag.append t s)
theorem Ag.take : ∀ {xs : List V} {us : List Value} (n : Nat), Ag xs us → Ag (xs.take n) (us.take n)
 | _, _, 0, _ => .nil
 | _, _, _ + 1, .nil => .nil
 | _, _, n + 1, .cons r t => .cons r (Ag.take n t)
theorem Ag.drop : ∀ {xs : List V} {us : List Value} (n : Nat), Ag xs us → Ag (xs.drop n) (us.drop n)
 | _, _, 0, r => r
 | _, _, _ + 1, .nil => .nil
 | _, _, n + 1, .cons _ t => Ag.drop n t
def Hu : Option V → Option Value → Prop
 | some v, some u => RelV v u
 | none, none => True
 | _, _ => False
def KV {κ : Type} : List (κ × V) → List (κ × Value) → Prop := Paired fun (p : κ × V) (q : κ × Value) => p.1 = q.1 ∧ RelV p.2 q.2
def kV : Key → V
 | .inl i => .int i
 | .inr x => .str x
inductive HO where
 | lst (xs : List V)
 | tup (xs : List V)
 | dK (kvs : List (Key × V)) | dT (kvs : List (List Key × V))
 | set (S : Int → Bool) (n : Nat)
 | ins (C dx : Addr) (fs : List (Str × V))
 | own (x : Addr)
 | xd (fs : List (Str × V))
 | met (f x : Addr)
 | rng (lo hi : Int)
 | frz (o : Obj) (u : HO)
 | tbl (ps : Array Value)
 | ext (φ : Heap → Prop)
abbrev Hp := Addr → Option HO
def upd (H : Hp) (a : Addr) (o : HO) : Hp := fun b => if b = a then some o else H b
theorem AO {H : Hp} {a : Addr} {o : HO} : upd H a o a = some o := by unfold upd; rw [if_pos rfl]
theorem AG {H : Hp} {a b : Addr} {o : HO} (h : b ≠ a) : upd H a o b = H b := by unfold upd; rw [if_neg h]
theorem GG {H : Hp} {a b : Addr} {o u : HO} (h : H a = some o) (h' : H b = some u) (d : o ≠ u) : a ≠ b := by
 intro e; subst e; rw [h] at h'; exact d (Option.some.inj h')
theorem AI {H : Hp} {a b : Addr} {o : HO} (h : H a = some o) (h' : H b = none) : a ≠ b := by
 intro e; subst e; rw [h] at h'; cases h'
section
variable (P : Program) (w : World)
def As (H : Hp) (h : Heap) (a : Addr) : HO → Prop
 | .lst xs => xs.length ≤ sizeLine ∧ ∃ (its : List Value) (n : Nat), Ag xs its ∧ h.get? a = some { cls := .type "list", data := .seq its.toArray n }
 | .tup xs => xs.length ≤ sizeLine ∧ ∃ its : List Value, Ag xs its ∧ IsTup h a its.toArray
 | .dK kvs => kvs.length ≤ sizeLine ∧ (a == sysModules) = false ∧ ∃ vs, KV kvs vs ∧ h.DictOf (Bj P w) a vs
 | .dT kvs => kvs.length ≤ sizeLine ∧ (a == sysModules) = false ∧ ∃ xs : List (List Key × Addr × Value),
   Paired (fun (p : List Key × V) (q : List Key × Addr × Value) => p.1 = q.1 ∧ H q.2.1 = some (.tup (p.1.map kV)) ∧ RelV p.2 q.2.2) kvs xs ∧
   ∃ o es ep, h.get? a = some o ∧ o.ExactDict ∧ o.data = .dict es ep ∧ es.toList = xs.map (entryOfKey (tupleKind (Bj P w))) ∧ (xs.map (·.1)).Nodup
 | .set S n => h.SetOf (intKind P w) a S n
 | .ins C dx fs => H dx = some (.own a) ∧ fs.length ≤ 1000 ∧ dx ≠ a ∧ h.get? a = some (PySem.W.instObj C dx) ∧
   ∃ mA, h.Ns1 dx mA ∧ (∀ f, Hu (fs.lookup f) (mA f)) ∧ PySem.Within mA (fs.map (·.1))
 | .own _ => ∃ o, h.get? a = some o
 | .xd fs => ∃ mA, h.Ns1 a mA ∧ ∀ f, Hu (fs.lookup f) (mA f)
 | .rng lo hi => ∃ t u v, h.get? a = some { cls := .type "range", data := .fields #[.int lo t, .int hi u, .int 1 v] }
 | .frz o u => h.get? a = some o ∧ As H h a u
 | .tbl ps => h.get? a = some { cls := .none, data := .fields ps }
 | .met f x => h.get? a = some (PySem.W.methodObj (.ref f) (.ref x))
 | .ext φ => φ h ∧ (∃ o, h.get? a = some o) ∧ ∀ h1 h2 : Heap, φ h1 → (∀ o, h1.get? a = some o → h2.get? a = some o) → φ h2
def HOk (H : Hp) (h : Heap) : Prop := ∀ a o, H a = some o → As P w H h a o
end
section
variable {P : Program} {w : World} {H H' : Hp} {h h' : Heap} {a : Addr} {o : HO}
theorem As.lt (x : As P w H h a o) : a < h.objs.size := by
 cases o with
 | lst xs => obtain ⟨_, _, _, _, e⟩ := x; exact Heap.lt_size e
 | tup xs => obtain ⟨_, _, _, p⟩ := x; exact p.lt
 | dK kvs => obtain ⟨_, _, _, _, o, _, _, e, _⟩ := x; exact Heap.lt_size e
 | dT kvs => obtain ⟨_, _, _, _, o, _, _, e, _⟩ := x; exact Heap.lt_size e
 | set S n => obtain ⟨o, _, _, _, e, _⟩ := x; exact Heap.lt_size e
 | ins C dx fs => obtain ⟨_, _, _, e, _⟩ := x; exact Heap.lt_size e
 | own y => obtain ⟨_, e⟩ := x; exact Heap.lt_size e
 | xd fs => obtain ⟨_, ⟨_, _, _, e, _⟩, _⟩ := x; exact Heap.lt_size e
 | rng lo hi => obtain ⟨_, _, _, e⟩ := x; exact Heap.lt_size e
 | frz ob u => obtain ⟨e, _⟩ := x; exact Heap.lt_size e
 | tbl ps => exact Heap.lt_size (show h.get? a = some _ from x)
 | met f y => exact Heap.lt_size (show h.get? a = some _ from x)
 | ext φ => obtain ⟨_, ⟨_, e⟩, _⟩ := x; exact Heap.lt_size e
theorem Paired.mapP {α β : Type} {F G : α → β → Prop} : ∀ {l₁ : List α} {l₂ : List β}, Paired F l₁ l₂ → (∀ a b, F a b → G a b) → Paired G l₁ l₂
 | _, _, .nil, _ => .nil
 | _, _, .cons r t, f => .cons (f _ _ r) (Paired.mapP t f)
theorem As.stay (x : As P w H h a o) (k : ∀ b u, (b = a ∨ H b = some (.own a)) → h.get? b = some u → h'.get? b = some u)
  (ho : ∀ b, H b = some (.own a) → H' b = some (.own a)) (ht : ∀ b xs, H b = some (.tup xs) → H' b = some (.tup xs)) : As P w H' h' a o := by
 induction o with
 | lst xs => obtain ⟨z, its, n, r, e⟩ := x; exact ⟨z, its, n, r, k _ _ (.inl rfl) e⟩
 | tup xs => obtain ⟨z, its, r, ob, e, c⟩ := x; exact ⟨z, its, r, ob, k _ _ (.inl rfl) e, c⟩
 | dK kvs => obtain ⟨z, y, vs, r, ob, es, ep, e, c⟩ := x; exact ⟨z, y, vs, r, ob, es, ep, k _ _ (.inl rfl) e, c⟩
 | dT kvs =>
  obtain ⟨z, y, xs, r, ob, es, ep, e, c⟩ := x
  exact ⟨z, y, xs, Paired.mapP r fun p q z => ⟨z.1, ht _ _ z.2.1, z.2.2⟩, ob, es, ep, k _ _ (.inl rfl) e, c⟩
 | set S n => obtain ⟨ob, es, ep, t, e, c⟩ := x; exact ⟨ob, es, ep, t, k _ _ (.inl rfl) e, c⟩
 | ins C dx fs =>
  obtain ⟨d, z, ne, e, mA, ⟨od, es, ep, e2, c⟩, r⟩ := x
  exact ⟨ho _ d, z, ne, k _ _ (.inl rfl) e, mA, ⟨od, es, ep, k _ _ (.inr d) e2, c⟩, r⟩
 | own y => obtain ⟨ob, e⟩ := x; exact ⟨ob, k _ _ (.inl rfl) e⟩
 | xd fs => obtain ⟨mA, ⟨od, es, ep, e, c⟩, r⟩ := x; exact ⟨mA, ⟨od, es, ep, k _ _ (.inl rfl) e, c⟩, r⟩
 | rng lo hi => obtain ⟨t, u, v, e⟩ := x; exact ⟨t, u, v, k _ _ (.inl rfl) e⟩
 | frz ob u ih => obtain ⟨e, q⟩ := x; exact ⟨k _ _ (.inl rfl) e, ih q⟩
 | tbl ps =>
  have e : h.get? a = some { cls := .none, data := .fields ps } := x
  show h'.get? a = some { cls := .none, data := .fields ps }
  exact k a _ (.inl rfl) e
 | met f y =>
  have e : h.get? a = some (PySem.W.methodObj (.ref f) (.ref y)) := x
  show h'.get? a = some (PySem.W.methodObj (.ref f) (.ref y))
  exact k a _ (.inl rfl) e
 | ext φ => obtain ⟨p, ⟨o, e⟩, st⟩ := x; exact ⟨st _ _ p fun o q => k _ _ (.inl rfl) q, ⟨o, k _ _ (.inl rfl) e⟩, st⟩
theorem HOk.lt (x : HOk P w H h) (e : H a = some o) : a < h.objs.size := (x a o e).lt
theorem HOk.fresh (x : HOk P w H h) (e : h.objs.size ≤ a) : H a = none := by
 cases q : H a with
 | none => rfl
 | some u => exact absurd (Nat.lt_of_lt_of_le (x.lt q) e) (Nat.lt_irrefl _)
theorem HOk.kept (x : HOk P w H h) (k : ∀ b u, h.get? b = some u → h'.get? b = some u) : HOk P w H h' := fun a o e =>
 (x a o e).stay (fun b u _ q => k b u q) (fun _ q => q) fun _ _ q => q
theorem HOk.laid (x : HOk P w H h) (k : ∀ b u, h.get? b = some u → h'.get? b = some u) (hp : h.objs.size ≤ a) (new : As P w (upd H a o) h' a o) : HOk P w (upd H a o) h' := fun b u e => by
 have hn := x.fresh hp
 by_cases hb : b = a
 ·subst hb; rw [AO] at e; cases e; exact new
 ·rw [AG hb] at e
  exact (x b u e).stay (fun c v _ q => k c v q) (fun c q => by rw [AG (AI q hn)]; exact q) fun c xs q => by rw [AG (AI q hn)]; exact q
end
def Rd (H : Hp) (a : Addr) (u : HO) : Prop := H a = some u ∨ ∃ o, H a = some (.frz o u)
theorem Rd.ok {P : Program} {w : World} {H : Hp} {h : Heap} {a : Addr} {u : HO} (r : Rd H a u) (x : HOk P w H h) : As P w H h a u := by
 rcases r with r | ⟨o, r⟩
 ·exact x a u r
 ·obtain ⟨_, q⟩ := x a _ r
  exact q
def Mut : Option HO → Prop
 | some (.lst _) => True
 | some (.dK _) => True
 | some (.dT _) => True
 | some (.set _ _) => True
 | some (.ins _ _ _) => True
 | some (.ext _) => True
 | _ => False
section
variable {P : Program} {w : World} {H : Hp} {h h' : Heap} {x e : Addr} {o' : HO}
theorem HOk.write (ok : HOk P w H h) (mu : Mut (H x)) (he : e = x ∨ H e = some (.own x)) (k : ∀ b u, b ≠ e → h.get? b = some u → h'.get? b = some u) (heo : ∃ u, h'.get? e = some u)
  (new : As P w (upd H x o') h' x o') : HOk P w (upd H x o') h' := fun b u q => by
 have nown : ∀ c y, H c = some (.own y) → c ≠ x := fun c y r z => by subst z; rw [r] at mu; exact mu
 have ntup : ∀ c xs, H c = some (.tup xs) → c ≠ x := fun c xs r z => by subst z; rw [r] at mu; exact mu
 by_cases hb : b = x
 ·subst hb; rw [AO] at q; cases q; exact new
 ·rw [AG hb] at q
  by_cases hbe : b = e
  ·have q' : H b = some (.own x) := by
    rcases he with z | z
    ·exact absurd (hbe.trans z) hb
    ·rw [hbe]; exact z
   rw [q] at q'; cases q'
   obtain ⟨v, hv⟩ := heo
   exact ⟨v, by rw [hbe]; exact hv⟩
  ·refine (ok b u q).stay (fun c v hc r => k c v ?_ r) (fun c r => by rw [AG (nown c b r)]; exact r) fun c xs r => by rw [AG (ntup c xs r)]; exact r
   rcases hc with rfl | hc
   ·exact hbe
   ·rintro rfl
    rcases he with z | z
    ·exact nown c b hc z
    ·rw [hc] at z; cases z; exact hb rfl
end
structure Un (fs ex : List Addr) (H H' : Hp) (h h' : Heap) : Prop where
 keep : ∀ b o, h.get? b = some o → H b = none → b ∉ fs → b ∉ ex → h'.get? b = some o
 slot : ∀ b o, h.get? b = some o → H b = none → b ∈ fs → b ∉ ex → ∃ sl, h'.get? b = some { o with slots := sl }
 free : ∀ b o, h.get? b = some o → H b = none → b ∉ ex → H' b = none
 there : ∀ b o, h.get? b = some o → b ∉ ex → ∃ o', h'.get? b = some o'
 tups : ∀ b xs, H b = some (.tup xs) → H' b = some (.tup xs)
 frzs : ∀ b o u, H b = some (.frz o u) → H' b = some (.frz o u)
 tbls : ∀ b ps, H b = some (.tbl ps) → ∃ more, H' b = some (.tbl (ps ++ more))
section
variable {fs fs' ex ex' : List Addr} {H H1 H2 : Hp} {h h1 h2 h' : Heap} {a x e : Addr} {o : HO}
theorem Un.any (u : Un fs ex H H1 h h1) {b : Addr} {ob : Obj} (q : h.get? b = some ob) (n : H b = none) (hx : b ∉ ex) : ∃ sl, h1.get? b = some { ob with slots := sl } := by
 by_cases hb : b ∈ fs
 ·exact u.slot b ob q n hb hx
 ·exact ⟨ob.slots, u.keep b ob q n hb hx⟩
theorem Un.kept (k : ∀ b u, h.get? b = some u → h'.get? b = some u) : Un fs ex H H h h' :=
 ⟨fun b ob q _ _ _ => k b ob q, fun b ob q _ _ _ => ⟨ob.slots, k b ob q⟩, fun _ _ _ n _ => n, fun b ob q _ => ⟨ob, k b ob q⟩, fun _ _ q => q, fun _ _ _ q => q, fun _ ps q => ⟨#[], by rw [q]; simp⟩⟩
theorem Un.refl : Un fs ex H H h h := Un.kept fun _ _ q => q
theorem Un.laid (k : ∀ b u, h.get? b = some u → h'.get? b = some u) (hp : h.objs.size ≤ a) (hn : H a = none) : Un fs ex H (upd H a o) h h' where
 keep := fun b u q _ _ _ => k b u q
 slot := fun b u q _ _ _ => ⟨u.slots, k b u q⟩
 free := fun b u q n _ => by rw [AG (Nat.ne_of_lt (Nat.lt_of_lt_of_le (Heap.lt_size q) hp))]; exact n
 there := fun b u q _ => ⟨u, k b u q⟩
 tups := fun b xs q => by rw [AG (AI q hn)]; exact q
 frzs := fun b u xs q => by rw [AG (AI q hn)]; exact q
 tbls := fun b ps q => ⟨#[], by rw [AG (AI q hn), q]; simp⟩
theorem Un.write (mu : Mut (H x)) (he : e = x ∨ H e = some (.own x)) (k : ∀ b u, b ≠ e → h.get? b = some u → h'.get? b = some u) (heo : ∃ u, h'.get? e = some u) : Un fs ex H (upd H x o) h h' := by
 have hx : ∀ b, H b = none → b ≠ x := fun b n z => by subst z; rw [n] at mu; exact mu
 have hb : ∀ b, H b = none → b ≠ e := fun b n z => by
  subst z
  rcases he with r | r
  ·exact hx b n r
  ·rw [n] at r; cases r
 have hm : ∀ b u, H b = some u → ¬ Mut (some u) → b ≠ x := fun b u q nm z => by subst z; rw [q] at mu; exact nm mu
 refine ⟨fun b u q n _ _ => k b u (hb b n) q, fun b u q n _ _ => ⟨u.slots, k b u (hb b n) q⟩, fun b u q n _ => by rw [AG (hx b n)]; exact n, fun b u q _ => ?_,
  fun b xs q => by rw [AG (hm b _ q fun z => z)]; exact q, fun b u xs q => by rw [AG (hm b _ q fun z => z)]; exact q, fun b ps q => ⟨#[], by rw [AG (hm b _ q fun z => z), q]; simp⟩⟩
 by_cases hbe : b = e
 ·subst hbe; exact heo
 ·exact ⟨u, k b u hbe q⟩
end
def trk (h : Heap) (H : Hp) : List Addr := (List.range h.objs.size).filter fun a => (H a).isSome
def NG (h : Heap) (H : Hp) : Heap := PySem.W.hideAll h (trk h H)
theorem Qh (h : Heap) (H : Hp) : (NG h H).objs.size = h.objs.size := PySem.W.hideAll_size _ _
theorem Rs {h : Heap} {H : Hp} {b : Addr} {o : Obj} (e : h.get? b = some o) (n : H b = none) : (NG h H).get? b = some o :=
 PySem.W.hideAll_get _ e fun hm => by
  have q : (H b).isSome = true := (List.mem_filter.mp hm).2
  rw [n] at q; simp at q
theorem TD {h : Heap} {H : Hp} {b : Addr} {o : Obj} (e : (NG h H).get? b = some o) : h.get? b = some o ∧ H b = none := by
 have e' : h.get? b = some o := PySem.W.of_hideAll (trk h H) e
 refine ⟨e', ?_⟩
 cases q : H b with
 | none => rfl
 | some x =>
  have hm : b ∈ trk h H := List.mem_filter.mpr ⟨List.mem_range.mpr (Heap.lt_size e'), by simp [q]⟩
  have z : (NG h H).get? b = none := PySem.W.hideAll_none (trk h H) hm
  rw [z] at e; cases e
end L2
namespace L2
open PySem PySem.Spec PyProof.Rows
structure Mod (K : PySem.W.Frag) (mg : Str → Option Value) (base : Heap) : Prop where
 kin : K.In base
 glob : base.Ns mainGlobals mg
 blt : ∃ mb, base.Ns builtinsNs mb ∧ ∀ x : Str, x ≠ "__name__" → mb x = bootBuiltins x
 nolimit : base.NoLimit
structure Cx where
 prog : Program
 w : World
 K : PySem.W.Frag
 mg : Str → Option Value
 base : Heap
 A : Around
 N : List Str
 s₀ : Shared
 H₀ : Hp
 env : Env
 outer : List Env
 stack : List Env
 ex : List Addr
 fn : Str → Bool
 calm : Bool
 pn : List (Addr × Obj)
 xe : Value → Shared → Prop
def frs (l : List Env) : List Addr := l.filterMap (·.frame)
abbrev Cx.fs (X : Cx) : List Addr := frs X.outer
def Vis (sc : Scope) (x : Str) : Prop := sc.names.lookup x = some .local ∨ sc.names.lookup x = some .cell ∨ sc.names.lookup x = some .free
def Loc (sc : Scope) (x : Str) : Prop := sc.names.lookup x = some .local ∨ sc.names.lookup x = some .cell
def Look (env : Env) (h : Heap) (m : Str → Option Value) (x : Str) (u : Value) : Prop :=
 (env.kindOf x = some .local ∧ m x = some u) ∨ ((env.kindOf x = some .cell ∨ env.kindOf x = some .free) ∧ ∃ c, env.cells.lookup x = some c ∧ h.IsCell c (some u))
structure Cx.Ok (X : Cx) : Prop where
 mod : Mod X.K X.mg X.base
 kind : X.env.scope.kind = .function
 glob : X.env.globals = mainGlobals
 blt : X.env.builtins = builtinsNs
 above : X.s₀.heap.objs.size ≤ X.env.locals
 inj : ∀ x y c, X.env.cells.lookup x = some c → X.env.cells.lookup y = some c → x = y
 has : ∀ x, (X.env.kindOf x = some .cell ∨ X.env.kindOf x = some .free) → ∃ c, X.env.cells.lookup x = some c
 cab : ∀ x c, X.fn x = true → X.env.cells.lookup x = some c → X.s₀.heap.objs.size ≤ c
 hd : X.calm = true → X.A.handled = none
 frames : X.A.frames = some X.stack
 stk : X.stack = X.outer ∨ (X.stack = X.env :: X.outer ∧ X.env.frame = some X.env.locals)
 exf : ∀ b ∈ X.ex, b ≠ X.env.locals ∧ ∀ x c, X.env.cells.lookup x = some c → c ≠ b
 bs : ∀ b o, X.base.get? b = some o → X.s₀.heap.get? b = some o ∧ X.H₀ b = none
 bsz : X.base.objs.size ≤ X.s₀.heap.objs.size
 noex : ∀ b o, X.base.get? b = some o → b ∉ X.ex
 exfs : ∀ b ∈ X.ex, b ∉ X.fs
 funs : X.s₀.heap.FunFrames X.base X.outer
 frf : ∀ b ∈ X.fs, X.H₀ b = none
structure Inv (X : Cx) (pins : List (Addr × Obj)) (σ : List (Option V)) (H : Hp) (s : Shared) : Prop where
 ok : X.Ok
 os : s.os = X.s₀.os
 bare : AllBare s.gens
 base : Un X.fs X.ex X.H₀ H X.s₀.heap s.heap
 loc : ∃ m, s.heap.Ns X.env.locals m ∧ ∀ (i : Nat) (x : Str) (v : V), X.N[i]? = some x → σ[i]? = some (some v) → Vis X.env.scope x → ∃ u, RelV v u ∧ Look X.env s.heap m x u
 cell : ∀ x c, X.env.cells.lookup x = some c → ∃ v, s.heap.IsCell c v
 free : H X.env.locals = none
 freeC : ∀ x c, X.env.cells.lookup x = some c → H c = none
 pin : ∀ p ∈ X.pn ++ pins, s.heap.get? p.1 = some p.2 ∧ H p.1 = none ∧ p.1 ≠ X.env.locals ∧ p.1 ∉ X.fs ∧ ∀ v, p.2.data ≠ .cell v
 hok : HOk X.prog X.w H s.heap
 len : σ.length = X.N.length
section
variable {X : Cx} {pins : List (Addr × Obj)} {σ : List (Option V)} {H H' : Hp} {s : Shared} {h' : Heap}
theorem Cx.Ok.nofr (ok : X.Ok) {b : Addr} {o : Obj} (e : X.base.get? b = some o) : b ∉ X.fs := fun hb => by
 have := (ok.funs.mem hb).1
 rw [e] at this; cases this
theorem Inv.bs (I : Inv X pins σ H s) : ∀ b o, X.base.get? b = some o → s.heap.get? b = some o ∧ H b = none := fun b o e =>
 ⟨I.base.keep b o (I.ok.bs b o e).1 (I.ok.bs b o e).2 (I.ok.nofr e) (I.ok.noex b o e), I.base.free b o (I.ok.bs b o e).1 (I.ok.bs b o e).2 (I.ok.noex b o e)⟩
theorem Inv.bk (I : Inv X pins σ H s) : ∀ b o, X.base.get? b = some o → s.heap.get? b = some o := fun b o e => (I.bs b o e).1
theorem Inv.mod (I : Inv X pins σ H s) : Mod X.K X.mg X.base := I.ok.mod
theorem Inv.kIn (I : Inv X pins σ H s) : X.K.In s.heap := I.ok.mod.kin.keeps I.bk
theorem Inv.lt (I : Inv X pins σ H s) : X.env.locals < s.heap.objs.size := let ⟨_, hn, _⟩ := I.loc; hn.lt
theorem Inv.sz (I : Inv X pins σ H s) : X.s₀.heap.objs.size ≤ s.heap.objs.size := Nat.le_trans I.ok.above (Nat.le_of_lt I.lt)
theorem Inv.nofs (I : Inv X pins σ H s) {a : Addr} (h : s.heap.objs.size ≤ a) : a ∉ X.fs := fun hb => by
 obtain ⟨_, o, ho, _⟩ := I.ok.funs.mem hb
 exact absurd (Nat.lt_of_lt_of_le (Heap.lt_size ho) (Nat.le_trans I.sz h)) (Nat.lt_irrefl _)
theorem Inv.cne (I : Inv X pins σ H s) : ∀ x c, X.env.cells.lookup x = some c → c ≠ X.env.locals := fun x c e z => by
 obtain ⟨v, o, ho, hd⟩ := I.cell x c e
 obtain ⟨m, ⟨o', es, ep, ho', hd', _⟩, _⟩ := I.loc
 rw [z, ho'] at ho; cases ho; rw [hd'] at hd; cases hd
theorem Inv.funs (I : Inv X pins σ H s) : s.heap.FunFrames X.base X.outer := by
 have all : ∀ (l : List Env), (∀ b ∈ frs l, b ∈ X.fs) → X.s₀.heap.FunFrames X.base l → s.heap.FunFrames X.base l := by
  intro l
  induction l with
  | nil => intro _ _; trivial
  | cons env r ih =>
   intro hs hl
   obtain ⟨hk, ⟨L, o, hf, hn, ho, hd⟩, hr⟩ := hl
   have hL : L ∈ X.fs := hs L (by unfold frs; rw [List.filterMap_cons, hf]; exact List.mem_cons_self)
   obtain ⟨sl, e⟩ := I.base.slot L o ho (I.ok.frf L hL) hL fun z => I.ok.exfs L z hL
   exact ⟨hk, ⟨L, _, hf, hn, e, hd⟩, ih (fun b hb => hs b (by unfold frs; rw [List.filterMap_cons, hf]; exact List.mem_cons_of_mem _ hb)) hr⟩
 exact all X.outer (fun _ hb => hb) I.ok.funs
theorem Inv.stack (I : Inv X pins σ H s) : s.heap.FunFrames X.base X.stack := by
 rcases I.ok.stk with e | ⟨e, hf⟩
 ·rw [e]; exact I.funs
 ·rw [e]
  obtain ⟨m, hn, _⟩ := I.loc
  refine .cons (by rw [I.ok.kind]; decide) hf hn ?_ I.funs
  exact Heap.get?_none_of_le (Nat.le_trans I.ok.bsz I.ok.above)
theorem Inv.stkSub (I : Inv X pins σ H s) : ∀ b ∈ frs X.stack, b ∈ X.env.locals :: X.fs := fun b hb => by
 rcases I.ok.stk with e | ⟨e, hf⟩
 ·rw [e] at hb; exact List.mem_cons_of_mem _ hb
 ·rw [e] at hb
  unfold frs at hb
  rw [List.filterMap_cons, hf] at hb
  exact hb
theorem Inv.stkFree (I : Inv X pins σ H s) : ∀ b ∈ frs X.stack, H b = none := fun b hb => by
 rcases List.mem_cons.mp (I.stkSub b hb) with e | hb
 ·rw [e]; exact I.free
 ·obtain ⟨_, o, ho, _⟩ := I.ok.funs.mem hb
  exact I.base.free b o ho (I.ok.frf b hb) fun z => I.ok.exfs b z hb
theorem Inv.step {g' : Array GenState} {t' : Nat} {d' : Drawn} {ch : List Addr} (I : Inv X pins σ H s)
  (hch : ∀ b ∈ ch, (b ∈ X.ex ∨ X.s₀.heap.objs.size ≤ b) ∧ b ≠ X.env.locals ∧ (∀ x c, X.env.cells.lookup x = some c → c ≠ b) ∧ ∀ p ∈ X.pn ++ pins, p.1 ≠ b)
  (keep : ∀ b o, b ≠ X.env.locals → b ∉ X.fs → b ∉ ch → s.heap.get? b = some o → H b = none → h'.get? b = some o)
  (slot : ∀ b o, b ≠ X.env.locals → b ∈ X.fs → b ∉ ch → s.heap.get? b = some o → H b = none → ∃ sl, h'.get? b = some { o with slots := sl }) (free : ∀ b o, b ∉ ch → s.heap.get? b = some o → H b = none → H' b = none)
  (there : ∀ b o, b ∉ ch → s.heap.get? b = some o → ∃ o', h'.get? b = some o')
  (tups : ∀ b xs, H b = some (.tup xs) → H' b = some (.tup xs)) (frzs : ∀ b o u, H b = some (.frz o u) → H' b = some (.frz o u)) (tbls : ∀ b ps, H b = some (.tbl ps) → ∃ more, H' b = some (.tbl (ps ++ more)))
  (ns : ∀ m, s.heap.Ns X.env.locals m → h'.Ns X.env.locals m) (hok : HOk X.prog X.w H' h') (hg : AllBare g') :
  Inv X pins σ H' { s with heap := h', gens := g', drawn := d', toks := t' } := by
 have neL : ∀ b o, X.s₀.heap.get? b = some o → b ≠ X.env.locals := fun b o e => Nat.ne_of_lt (Nat.lt_of_lt_of_le (Heap.lt_size e) I.ok.above)
 have neC : ∀ b o, X.s₀.heap.get? b = some o → b ∉ X.ex → b ∉ ch := fun b o e hx hb => by
  rcases (hch b hb).1 with z | z
  ·exact hx z
  ·exact absurd (Nat.lt_of_lt_of_le (Heap.lt_size e) z) (Nat.lt_irrefl _)
 have cellK : ∀ x c, X.env.cells.lookup x = some c → ∀ v, s.heap.IsCell c v → h'.IsCell c v := fun x c e v ⟨o, ho, hd⟩ => by
  have nch : c ∉ ch := fun z => (hch c z).2.2.1 x c e rfl
  by_cases hc : c ∈ X.fs
  ·obtain ⟨sl, q⟩ := slot c o (I.cne x c e) hc nch ho (I.freeC x c e)
   exact ⟨_, q, hd⟩
  ·exact ⟨o, keep c o (I.cne x c e) hc nch ho (I.freeC x c e), hd⟩
 refine ⟨I.ok, I.os, hg, ⟨fun b o e n hb hx => ?_, fun b o e n hb hx => ?_, fun b o e n hx => ?_, fun b o e hx => ?_, fun b xs e => tups b xs (I.base.tups b xs e), fun b o xs e => frzs b o xs (I.base.frzs b o xs e), fun b ps e => ?_⟩, ?_, fun x c e => ?_, ?_, fun x c e => ?_, fun p hp => ?_, hok, I.len⟩
 ·exact keep b o (neL b o e) hb (neC b o e hx) (I.base.keep b o e n hb hx) (I.base.free b o e n hx)
 ·obtain ⟨sl, e1⟩ := I.base.slot b o e n hb hx
  obtain ⟨sl', e2⟩ := slot b _ (neL b o e) hb (neC b o e hx) e1 (I.base.free b o e n hx)
  exact ⟨sl', e2⟩
 ·obtain ⟨o', e1⟩ := I.base.there b o e hx
  exact free b o' (neC b o e hx) e1 (I.base.free b o e n hx)
 ·obtain ⟨o', e1⟩ := I.base.there b o e hx
  exact there b o' (neC b o e hx) e1
 ·obtain ⟨m1, e1⟩ := I.base.tbls b ps e
  obtain ⟨m2, e2⟩ := tbls b _ e1
  exact ⟨m1 ++ m2, by rw [e2, Array.append_assoc]⟩
 ·obtain ⟨m, hn, hl⟩ := I.loc
  refine ⟨m, ns m hn, fun i x v e1 e2 e3 => ?_⟩
  obtain ⟨u, r, l⟩ := hl i x v e1 e2 e3
  refine ⟨u, r, ?_⟩
  rcases l with l | ⟨k, c, e, z⟩
  ·exact .inl l
  ·exact .inr ⟨k, c, e, cellK x c e _ z⟩
 ·obtain ⟨v, z⟩ := I.cell x c e
  exact ⟨v, cellK x c e v z⟩
 ·obtain ⟨m, ⟨o, _, _, ho, _⟩, _⟩ := I.loc
  exact free _ o (fun z => (hch _ z).2.1 rfl) ho I.free
 ·obtain ⟨v, o, ho, hd⟩ := I.cell x c e
  exact free c o (fun z => (hch c z).2.2.1 x c e rfl) ho (I.freeC x c e)
 ·obtain ⟨e, n, ne, nf, d⟩ := I.pin p hp
  have nch : p.1 ∉ ch := fun z => (hch p.1 z).2.2.2 p hp rfl
  exact ⟨keep p.1 p.2 ne nf nch e n, free p.1 p.2 nch e n, ne, nf, d⟩
theorem Inv.un {t' : Nat} (I : Inv X pins σ H s) (u : Un X.fs [] H H' s.heap h') (hok : HOk X.prog X.w H' h') : Inv X pins σ H' { s with heap := h', toks := t' } := by
 obtain ⟨m, ⟨o, es, ep, ho, r⟩, _⟩ := id I.loc
 obtain ⟨sl, hL⟩ := u.any ho I.free (by simp)
 exact I.step (g' := s.gens) (d' := s.drawn) (ch := []) (fun _ z => nomatch z) (fun b o _ hb _ e n => u.keep b o e n hb (by simp)) (fun b o _ hb _ e n => u.slot b o e n hb (by simp)) (fun b o _ e n => u.free b o e n (by simp)) (fun b o _ e => u.there b o e (by simp)) u.tups u.frzs u.tbls (fun m' hm => by
  obtain ⟨o', es', ep', ho', r'⟩ := hm
  rw [ho] at ho'; cases ho'
  exact ⟨_, es', ep', hL, r'⟩) hok I.bare
theorem Inv.call {g' : Array GenState} {t' : Nat} {d' : Drawn} {ch : List Addr} (I : Inv X pins σ H s) (u : Un (frs X.stack) ch H H' s.heap h') (hok : HOk X.prog X.w H' h') (hg : AllBare g')
  (hch : ∀ b ∈ ch, (b ∈ X.ex ∨ X.s₀.heap.objs.size ≤ b) ∧ b ≠ X.env.locals ∧ (∀ x c, X.env.cells.lookup x = some c → c ≠ b) ∧ ∀ p ∈ X.pn ++ pins, p.1 ≠ b) :
  Inv X pins σ H' { s with heap := h', gens := g', drawn := d', toks := t' } := by
 obtain ⟨m, ⟨o, es, ep, ho, r⟩, _⟩ := id I.loc
 obtain ⟨sl, hL⟩ := u.any ho I.free fun z => (hch _ z).2.1 rfl
 exact I.step (ch := ch) hch (fun b o hL hb hc e n => u.keep b o e n (fun z => (List.mem_cons.mp (I.stkSub b z)).elim hL hb) hc) (fun b o _ _ hc e n => u.any e n hc) (fun b o hc e n => u.free b o e n hc) (fun b o hc e => u.there b o e hc) u.tups u.frzs u.tbls (fun m' hm => by
  obtain ⟨o', es', ep', ho', r'⟩ := hm
  rw [ho] at ho'; cases ho'
  exact ⟨_, es', ep', hL, r'⟩) hok hg
theorem Inv.turned {t' : Nat} {it : Addr} (I : Inv X pins σ H s) (k : ∀ b o, b ≠ it → s.heap.get? b = some o → h'.get? b = some o) (hn : H it = none) (hL : it ≠ X.env.locals)
  (h1 : it ∈ X.ex ∨ X.s₀.heap.objs.size ≤ it) (h2 : ∀ x c, X.env.cells.lookup x = some c → c ≠ it) (h3 : ∀ p ∈ X.pn ++ pins, p.1 ≠ it) : Inv X pins σ H { s with heap := h', toks := t' } := by
 have nit : ∀ b u, H b = some u → b ≠ it := fun b u e z => by rw [z, hn] at e; cases e
 refine I.step (g' := s.gens) (d' := s.drawn) (ch := [it]) (fun b hb => ?_) (fun b o _ _ hc e _ => k b o (fun z => hc (by simp [z])) e) (fun b o _ _ hc e _ => ⟨o.slots, k b o (fun z => hc (by simp [z])) e⟩) (fun _ _ _ _ n => n)
  (fun b o hc e => ⟨o, k b o (fun z => hc (by simp [z])) e⟩) (fun _ _ e => e) (fun _ _ _ e => e) (fun b ps e => ⟨#[], by rw [e]; simp⟩) (fun m hm => ?_) (fun b u e => ?_) I.bare
 ·have e : b = it := by simpa using hb
  subst e
  exact ⟨h1, hL, h2, h3⟩
 ·obtain ⟨o, es, ep, ho, r⟩ := hm
  exact ⟨o, es, ep, k _ o (Ne.symm hL) ho, r⟩
 ·refine (I.hok b u e).stay (fun c v hc q => k c v ?_ q) (fun _ q => q) fun _ _ q => q
  rcases hc with z | z
  ·rw [z]; exact nit b u e
  ·exact nit c _ z
theorem Inv.tok (I : Inv X pins σ H s) (t : Nat) : Inv X pins σ H { s with toks := t } := I.un (h' := s.heap) (t' := t) Un.refl I.hok
theorem Inv.kept {t' : Nat} (I : Inv X pins σ H s) (k : ∀ b u, s.heap.get? b = some u → h'.get? b = some u) : Inv X pins σ H { s with heap := h', toks := t' } := I.un (Un.kept k) (I.hok.kept k)
theorem Inv.laid {a : Addr} {o : HO} {t' : Nat} (I : Inv X pins σ H s) (k : ∀ b u, s.heap.get? b = some u → h'.get? b = some u) (hp : s.heap.objs.size ≤ a) (new : As X.prog X.w (upd H a o) h' a o) :
  Inv X pins σ (upd H a o) { s with heap := h', toks := t' } := I.un (Un.laid k hp (I.hok.fresh hp)) (I.hok.laid k hp new)
theorem Inv.write {x e : Addr} {o : HO} {t' : Nat} (I : Inv X pins σ H s) (mu : Mut (H x)) (he : e = x ∨ H e = some (.own x)) (k : ∀ b u, b ≠ e → s.heap.get? b = some u → h'.get? b = some u) (heo : ∃ u, h'.get? e = some u)
  (new : As X.prog X.w (upd H x o) h' x o) : Inv X pins σ (upd H x o) { s with heap := h', toks := t' } := I.un (Un.write mu he k heo) (I.hok.write mu he k heo new)
theorem Inv.pins_of {pins' : List (Addr × Obj)} (I : Inv X pins σ H s) (h : ∀ p ∈ pins', s.heap.get? p.1 = some p.2 ∧ H p.1 = none ∧ p.1 ≠ X.env.locals ∧ p.1 ∉ X.fs ∧ ∀ v, p.2.data ≠ .cell v) : Inv X pins' σ H s :=
 ⟨I.ok, I.os, I.bare, I.base, I.loc, I.cell, I.free, I.freeC, fun p hp => (List.mem_append.mp hp).elim (fun z => I.pin p (List.mem_append_left _ z)) (h p), I.hok, I.len⟩
theorem OH {N : List Str} (hN : N.Nodup) {i j : Nat} {x : Str} (a : N[i]? = some x) (b : N[j]? = some x) : i = j := by
 obtain ⟨h1, e1⟩ := List.getElem?_eq_some_iff.mp a
 obtain ⟨h2, e2⟩ := List.getElem?_eq_some_iff.mp b
 exact (List.getElem_inj hN).mp (e1.trans e2.symm)
theorem ML {M : Model} {A : Around} {E : Value → Shared → Prop} {i : Nat} {x : Str} {v : V} {u : Value} {Q : Unit → Shared → Prop} (I : Inv X pins σ H s) (hN : X.N.Nodup) (hi : X.N[i]? = some x) (hx : Loc X.env.scope x) (r : RelV v u)
  (h : ∀ s', Inv X pins (σ.set i (some v)) H s' → (∃ a, Heap.SameBut a s.heap s'.heap ∧ (a = X.env.locals ∨ X.env.cells.lookup x = some a)) → Q () s') (hf : X.fn x = true ∨ X.env.scope.names.lookup x = some .local := by first | exact .inl rfl | exact .inr rfl | assumption) : wpAny M A (storeName X.env x u) Q E s := by
 obtain ⟨m, hn, hl⟩ := id I.loc
 have hcls : (X.env.scope.kind == .class || (X.env.scope.kind == .module && X.env.locals != X.env.globals)) = false := by rw [I.ok.kind]; rfl
 have hiσ : i < σ.length := by rw [I.len]; exact (List.getElem?_eq_some_iff.mp hi).1
 have cne := I.cne
 have tracked : ∀ {a : Addr} {h' : Heap}, (∃ o, s.heap.get? a = some o ∧ H a = none) → Heap.SameBut a s.heap h' → HOk X.prog X.w H h' := fun {a h'} ha hs b ob e => by
  obtain ⟨_, _, hfree⟩ := ha
  refine (I.hok b ob e).stay (fun c w' hc q => (hs.2 c ?_).trans q) (fun _ q => q) fun _ _ q => q
  rintro rfl
  rcases hc with rfl | hc
  ·rw [hfree] at e; cases e
  ·rw [hfree] at hc; cases hc
 rcases hx with hk | hk
 ·refine wpAny_storeName_local hk hn (fun h' hn' hs => ?_) hcls
  obtain ⟨oL, _, _, hoL, _⟩ := id hn
  refine h _ ⟨I.ok, I.os, I.bare, ⟨fun b o e n hb hx => ?_, fun b o e n hb hx => ?_, I.base.free, fun b o e hx => ?_, I.base.tups, I.base.frzs, I.base.tbls⟩, ⟨_, hn', fun j y v' e1 e2 e3 => ?_⟩, fun y c e => ?_, I.free, I.freeC, fun p hp => ?_, tracked ⟨oL, hoL, I.free⟩ hs, by simpa using I.len⟩ ⟨_, hs, .inl rfl⟩
  ·exact (hs.2 b (Nat.ne_of_lt (Nat.lt_of_lt_of_le (Heap.lt_size e) I.ok.above))).trans (I.base.keep b o e n hb hx)
  ·obtain ⟨sl, e1⟩ := I.base.slot b o e n hb hx
   exact ⟨sl, (hs.2 b (Nat.ne_of_lt (Nat.lt_of_lt_of_le (Heap.lt_size e) I.ok.above))).trans e1⟩
  ·obtain ⟨o', e1⟩ := I.base.there b o e hx
   exact ⟨o', (hs.2 b (Nat.ne_of_lt (Nat.lt_of_lt_of_le (Heap.lt_size e) I.ok.above))).trans e1⟩
  ·by_cases hj : j = i
   ·subst hj
    rw [hi] at e1; cases e1
    rw [List.getElem?_set_self hiσ] at e2
    cases e2
    exact ⟨u, r, .inl ⟨hk, by simp⟩⟩
   ·rw [List.getElem?_set_ne (Ne.symm hj)] at e2
    obtain ⟨u', r', q⟩ := hl j y v' e1 e2 e3
    refine ⟨u', r', ?_⟩
    rcases q with ⟨k, e⟩ | ⟨k, c, e, z⟩
    ·refine .inl ⟨k, ?_⟩
     have : y ≠ x := fun e => hj (OH hN e1 (e ▸ hi))
     simp [this, e]
    ·exact .inr ⟨k, c, e, z.sameBut hs (cne y c e)⟩
  ·obtain ⟨w', z⟩ := I.cell y c e
   exact ⟨w', z.sameBut hs (cne y c e)⟩
  ·obtain ⟨e, n, ne, nf, d⟩ := I.pin p hp
   exact ⟨(hs.2 p.1 ne).trans e, n, ne, nf, d⟩
 ·have hfn : X.fn x = true := by
   rcases hf with z | z
   ·exact z
   ·rw [z] at hk; cases hk
  obtain ⟨c, hc⟩ := I.ok.has x (.inl hk)
  obtain ⟨w', z⟩ := I.cell x c hc
  refine wpAny_storeName_cell I.ok.kind hk hc z (fun h' hc' hs => ?_)
  obtain ⟨oc, hoc, hocd⟩ := id z
  refine h { s with heap := h' } ⟨I.ok, I.os, I.bare, ⟨fun b o e n hb hx => ?_, fun b o e n hb hx => ?_, I.base.free, fun b o e hx => ?_, I.base.tups, I.base.frzs, I.base.tbls⟩, ⟨m, hn.sameBut hs (Ne.symm (cne x c hc)), fun j y v' e1 e2 e3 => ?_⟩, fun y c' e => ?_, I.free, I.freeC, fun p hp => ?_, tracked ⟨oc, hoc, I.freeC x c hc⟩ hs, by simpa using I.len⟩ ⟨c, hs, .inr hc⟩
  ·exact (hs.2 b (Nat.ne_of_lt (Nat.lt_of_lt_of_le (Heap.lt_size e) (I.ok.cab x c hfn hc)))).trans (I.base.keep b o e n hb hx)
  ·obtain ⟨sl, e1⟩ := I.base.slot b o e n hb hx
   exact ⟨sl, (hs.2 b (Nat.ne_of_lt (Nat.lt_of_lt_of_le (Heap.lt_size e) (I.ok.cab x c hfn hc)))).trans e1⟩
  ·obtain ⟨o', e1⟩ := I.base.there b o e hx
   exact ⟨o', (hs.2 b (Nat.ne_of_lt (Nat.lt_of_lt_of_le (Heap.lt_size e) (I.ok.cab x c hfn hc)))).trans e1⟩
  ·by_cases hj : j = i
   ·subst hj
    rw [hi] at e1; cases e1
    rw [List.getElem?_set_self hiσ] at e2
    cases e2
    exact ⟨u, r, .inr ⟨.inl hk, c, hc, hc'⟩⟩
   ·rw [List.getElem?_set_ne (Ne.symm hj)] at e2
    obtain ⟨u', r', q⟩ := hl j y v' e1 e2 e3
    refine ⟨u', r', ?_⟩
    rcases q with q | ⟨k, c', e, z'⟩
    ·exact .inl q
    ·refine .inr ⟨k, c', e, z'.sameBut hs ?_⟩
     rintro rfl
     exact hj (OH hN e1 (I.ok.inj _ _ _ e hc ▸ hi))
  ·by_cases hcc : c' = c
   ·subst hcc; exact ⟨_, hc'⟩
   ·obtain ⟨w2, z2⟩ := I.cell y c' e
    exact ⟨w2, z2.sameBut hs hcc⟩
  ·obtain ⟨e, n, ne, nf, d⟩ := I.pin p hp
   refine ⟨(hs.2 p.1 ?_).trans e, n, ne, nf, d⟩
   intro q
   rw [q, hoc] at e
   have q' : oc = p.2 := Option.some.inj e
   exact d w' (by rw [← q']; exact hocd)
theorem OV {M : Model} {A : Around} {E : Value → Shared → Prop} {i : Nat} {x : Str} {v : V} {u : Value} {Q : Unit → Shared → Prop} (I : Inv X pins σ H s) (hN : X.N.Nodup) (hi : X.N[i]? = some x) (hx : Loc X.env.scope x) (r : RelV v u)
  (h : ∀ s', Inv X pins (σ.set i (some v)) H s' → Q () s') (hf : X.fn x = true ∨ X.env.scope.names.lookup x = some .local := by first | exact .inl rfl | exact .inr rfl | assumption) : wpAny M A (storeName X.env x u) Q E s :=
 ML I hN hi hx r (fun s' I' _ => h s' I') hf
theorem Inv.call' {s' : Shared} {ch : List Addr} (I : Inv X pins σ H s) (ho : s'.os = s.os) (u : Un (frs X.stack) ch H H' s.heap s'.heap) (hok : HOk X.prog X.w H' s'.heap) (hg : AllBare s'.gens)
  (hch : ∀ b ∈ ch, (b ∈ X.ex ∨ X.s₀.heap.objs.size ≤ b) ∧ b ≠ X.env.locals ∧ (∀ x c, X.env.cells.lookup x = some c → c ≠ b) ∧ ∀ p ∈ X.pn ++ pins, p.1 ≠ b) : Inv X pins σ H' s' := by
 obtain ⟨h', g', d', t', o'⟩ := s'
 have e : o' = s.os := ho
 subst e
 exact I.call (g' := g') (t' := t') (d' := d') u hok hg hch
end
abbrev XK := Value → Option Addr → Hp → Prop
abbrev St := List (Option V)
abbrev VK := V → Hp → Prop
abbrev TE := St → Hp → VK → Prop
abbrev TT := St → Hp → (Bool → Hp → Prop) → Prop
abbrev TA := St → Hp → (List V → Hp → Prop) → Prop
structure Ld where
 nx : St → Hp → Prop
 rt : VK
 bk : St → Hp → Prop := fun _ _ => False
 ct : St → Hp → Prop := fun _ _ => False
abbrev TS := Ld → St → Hp → Prop
def EP (X : Cx) (pins : List (Addr × Obj)) (σ : St) (Q : VK) (u : Value) (s' : Shared) : Prop := ∃ v H', Inv X pins σ H' s' ∧ RelV v u ∧ Q v H'
def TP (X : Cx) (pins : List (Addr × Obj)) (σ : St) (Q : Bool → Hp → Prop) (b : Bool) (s' : Shared) : Prop := ∃ H', Inv X pins σ H' s' ∧ Q b H'
def AP (X : Cx) (pins : List (Addr × Obj)) (σ : St) (Q : List V → Hp → Prop) (us : List Value) (s' : Shared) : Prop := ∃ vs H', Inv X pins σ H' s' ∧ Ag vs us ∧ Q vs H'
def SP (X : Cx) (pins : List (Addr × Obj)) (D : Ld) (f : Flow) (s' : Shared) : Prop :=
 match f with
 | .next => ∃ σ' H', Inv X pins σ' H' s' ∧ D.nx σ' H'
 | .brk => ∃ σ' H', Inv X pins σ' H' s' ∧ D.bk σ' H'
 | .cont => ∃ σ' H', Inv X pins σ' H' s' ∧ D.ct σ' H'
 | .ret u => ∃ v σ' H', Inv X pins σ' H' s' ∧ RelV v u ∧ D.rt v H'
def PE (X : Cx) (e : Expr) (t : TE) : Prop :=
 ∀ (pins : List (Addr × Obj)) (s : Shared) (σ : St) (H : Hp) (Q : VK), Inv X pins σ H s → t σ H Q → wpAny (model X.prog X.w) X.A (eval e X.env) (EP X pins σ Q) X.xe s
def PT (X : Cx) (e : Expr) (t : TT) : Prop :=
 ∀ (pins : List (Addr × Obj)) (s : Shared) (σ : St) (H : Hp) (Q : Bool → Hp → Prop), Inv X pins σ H s → t σ H Q → wpAny (model X.prog X.w) X.A (isTrue e X.env (eval e X.env)) (TP X pins σ Q) X.xe s
def PW (X : Cx) (e : Expr) (t : TT) : Prop :=
 ∀ (whole : Sem Value) (pins : List (Addr × Obj)) (s : Shared) (σ : St) (H : Hp) (Q : Bool → Hp → Prop), Inv X pins σ H s → t σ H Q → wpAny (model X.prog X.w) X.A (isTrue e X.env whole) (TP X pins σ Q) X.xe s
theorem PW.pt {X : Cx} {e : Expr} {t : TT} (h : PW X e t) : PT X e t := h _
def PA (X : Cx) (es : List Expr) (t : TA) : Prop :=
 ∀ (pos : Pos) (pins : List (Addr × Obj)) (s : Shared) (σ : St) (H : Hp) (Q : List V → Hp → Prop), Inv X pins σ H s → t σ H Q → wpAny (model X.prog X.w) X.A (spliced (backTo pos (starEach es X.env))) (AP X pins σ Q) X.xe s
def PS (X : Cx) (st : Stmt) (t : TS) : Prop :=
 ∀ (pins : List (Addr × Obj)) (s : Shared) (σ : St) (H : Hp) (D : Ld), Inv X pins σ H s → t D σ H → wpAny (model X.prog X.w) X.A (exec st X.env) (SP X pins D) X.xe s
def PSs (X : Cx) (st : List Stmt) (t : TS) : Prop :=
 ∀ (pins : List (Addr × Obj)) (s : Shared) (σ : St) (H : Hp) (D : Ld), Inv X pins σ H s → t D σ H → wpAny (model X.prog X.w) X.A (execs st X.env) (SP X pins D) X.xe s
theorem thn {α : Type} {t : Sem α} {Q Q' : α → Shared → Prop} {M : Model} {A : Around} {E : Value → Shared → Prop} {s : Shared} (h : wpAny M A t Q E s) (hQ : ∀ a s, Q a s → Q' a s) : wpAny M A t Q' E s := wpAny_mono h hQ fun _ _ x => x
end L2
namespace L2
open PySem PySem.Spec PyProof.Rows
section
variable {X : Cx}
def KN (i : Nat) : TE := fun σ H Q => ∃ v, σ[i]? = some (some v) ∧ Q v H
def tC (v : V) : TE := fun _ H Q => Q v H
theorem VR {i : Nat} {x : Str} {pos : Pos} (hN : X.N[i]? = some x) (hv : Vis X.env.scope x) (hd : (x == ("__debug__" : Str)) = false := by decide) (hcd : (x == ("__classdict__" : Str)) = false := by decide) : PE X (.Name x pos) (KN i) := by
 intro pins s σ H Q I h
 obtain ⟨v, e, h⟩ := h
 obtain ⟨m, hn, hl⟩ := I.loc
 obtain ⟨u, r, l⟩ := hl i x v hN e hv
 have fin : EP X pins σ Q u s := ⟨v, H, I, r, h⟩
 rcases l with ⟨hk, hm⟩ | ⟨hk, c, hc, hcell⟩
 ·exact wpAny_Name (wpAny_loadName_local I.ok.kind hk hn hm fin) hd
 ·rcases hk with hk | hk
  ·exact wpAny_Name (wpAny_loadName_cell I.ok.kind hk hc hcell fin) hd
  ·exact wpAny_Name (wpAny_loadName_free I.ok.kind hk hc hcell fin hcd) hd
theorem AB {i j pos} : PE X (.Constant (.int i) j pos) (tC (.int i)) := fun _ _ _ H _ I h => wpAny_Constant_int ⟨.int i, H, I.tok _, ⟨_, rfl⟩, h⟩
theorem DT {b j pos} : PE X (.Constant (.bool b) j pos) (tC (.bl b)) := fun _ _ _ H _ I h => Constant_bool ⟨.bl b, H, I, rfl, h⟩
theorem Es {j pos} : PE X (.Constant .none j pos) (tC .non) := fun _ _ _ H _ I h => Constant_none ⟨.non, H, I, rfl, h⟩
theorem BD {x j pos} : PE X (.Constant (.str x) j pos) (tC (.str x)) := fun _ _ _ H _ I h => Calls.Constant_str ⟨.str x, H, I.tok _, ⟨_, rfl⟩, h⟩
def Gl (X : Cx) (x : Str) : Prop := X.env.kindOf x = some .globalImplicit
theorem KW {E : Value → Shared → Prop} {pins : List (Addr × Obj)} {s : Shared} {σ : St} {H : Hp} {x : Str} {u : Value} {pos : Pos} {Q : Value → Shared → Prop} (I : Inv X pins σ H s) (hg : Gl X x) (hm : X.mg x = some u) (h : Q u s)
  (hd : (x == ("__debug__" : Str)) = false := by decide) : wpAny (model X.prog X.w) X.A (eval (.Name x pos) X.env) Q E s :=
 Calls.Name_function_global I.ok.kind hg (Calls.loadGlobal_global (by rw [I.ok.glob]; exact I.mod.glob.keeps I.bk) hm h) hd
theorem HQ {E : Value → Shared → Prop} {pins : List (Addr × Obj)} {s : Shared} {σ : St} {H : Hp} {x : Str} {u : Value} {pos : Pos} {Q : Value → Shared → Prop} (I : Inv X pins σ H s) (hg : Gl X x) (hm : X.mg x = none) (hv : bootBuiltins x = some u) (h : Q u s)
  (hn : x ≠ "__name__" := by decide) (hd : (x == ("__debug__" : Str)) = false := by decide) : wpAny (model X.prog X.w) X.A (eval (.Name x pos) X.env) Q E s := by
 obtain ⟨mb, h1, h2⟩ := I.mod.blt
 exact Calls.Name_function_global I.ok.kind hg (Calls.loadGlobal_builtin (by rw [I.ok.glob]; exact I.mod.glob.keeps I.bk) hm (by rw [I.ok.blt]; exact h1.keeps I.bk) ((h2 x hn).trans hv) h) hd
theorem Da {x : Str} {v : V} {u : Value} {pos : Pos} (hg : Gl X x) (hm : X.mg x = some u) (r : RelV v u) (hd : (x == ("__debug__" : Str)) = false := by decide) : PE X (.Name x pos) (tC v) :=
 fun _ _ _ H _ I h => KW I hg hm ⟨v, H, I, r, h⟩ hd
theorem At {x : Str} {v : V} {u : Value} {pos : Pos} (hg : Gl X x) (hm : X.mg x = none) (hv : bootBuiltins x = some u) (r : RelV v u) (hn : x ≠ "__name__" := by decide) (hd : (x == ("__debug__" : Str)) = false := by decide) : PE X (.Name x pos) (tC v) :=
 fun _ _ _ H _ I h => HQ I hg hm hv ⟨v, H, I, r, h⟩ hn hd
variable {a b : Expr} {ta tb : TE} {pos : Pos}
def PC (X : Cx) (op : CmpOp) (a b : Expr) (t : TE) : Prop :=
 ∀ (pins : List (Addr × Obj)) (s : Shared) (σ : St) (H : Hp) (Q : VK), Inv X pins σ H s → t σ H Q →
  wpAny (model X.prog X.w) X.A (eval a X.env) (fun v s₁ => wpAny (model X.prog X.w) X.A (eval b X.env) (fun u s₂ => wpAny (model X.prog X.w) X.A (compareOp op v u) (EP X pins σ Q) X.xe s₂) X.xe s₁) X.xe s
def tB (t : TE) : TT := fun σ H Q => t σ H fun x H1 => ∃ c, x = .bl c ∧ Q c H1
theorem To {op : CmpOp} {t : TE} (h : PC X op a b t) (h1 : behindInMarks op b = false := by first | exact nobehind _ (by decide) (by decide) | rfl) : PT X (.Compare a [op] [b] pos) (tB t) := by
 intro pins s σ H Q I hw
 refine wpAny_isTrue_Compare1 (thn (h pins s σ H _ I hw) fun v s1 h1 => thn h1 fun u s2 h2 => thn h2 fun c s3 ⟨x, H1, I1, r1, q1⟩ => ?_) h1
 obtain ⟨d, rfl, q⟩ := q1
 cases r1
 exact wpAny_truthy_bool ⟨H1, I1, q⟩
theorem BO {e : Expr} {t : TE} (h : PE X e t) (he : ∀ whole, isTrue e X.env whole = (do let v ← whole; standAt e.pos; holding [v] (truthy v)) := by intro _; rfl) : PT X e (tB t) := by
 intro pins s σ H Q I hw
 refine isTrue_plain (thn (h pins s σ H _ I hw) fun v s1 ⟨x, H1, I1, r1, q1⟩ => ?_) (he _)
 obtain ⟨d, rfl, q⟩ := q1
 cases r1
 exact wpAny_truthy_bool ⟨H1, I1, q⟩
variable {tA tB' : TT} {rest : List Expr}
def MA (t u : TT) : TT := fun σ H Q => t σ H fun c H1 => if c = true then u σ H1 Q else Q false H1
def tOr (t u : TT) : TT := fun σ H Q => t σ H fun c H1 => if c = true then Q true H1 else u σ H1 Q
def MG (t : TT) : TT := fun σ H Q => t σ H fun c H1 => Q (!c) H1
theorem NT (ha : PT X a tA) : PW X (.BoolOp .And [a] pos) tA := by
 intro wh pins s σ H Q I h
 refine isTrue_and (thn (ha pins s σ H Q I h) fun c s1 e => ?_)
 cases c with
 | true => exact isTrue_and_nil e
 | false => exact e
theorem By (ha : PT X a tA) : PW X (.BoolOp .Or [a] pos) tA := by
 intro wh pins s σ H Q I h
 refine isTrue_or (thn (ha pins s σ H Q I h) fun c s1 e => ?_)
 cases c with
 | false => exact isTrue_or_nil e
 | true => exact e
theorem Os (ha : PT X a tA) (hb : PW X (.BoolOp .And (b :: rest) pos) tB') : PW X (.BoolOp .And (a :: b :: rest) pos) (MA tA tB') := by
 intro wh pins s σ H Q I h
 refine isTrue_and (thn (ha pins s σ H _ I h) fun c s1 ⟨H1, I1, q1⟩ => ?_)
 cases c with
 | true => exact hb wh pins s1 σ H1 Q I1 q1
 | false => exact ⟨H1, I1, q1⟩
theorem Cd (ha : PT X a tA) (hb : PW X (.BoolOp .Or (b :: rest) pos) tB') : PW X (.BoolOp .Or (a :: b :: rest) pos) (tOr tA tB') := by
 intro wh pins s σ H Q I h
 refine isTrue_or (thn (ha pins s σ H _ I h) fun c s1 ⟨H1, I1, q1⟩ => ?_)
 cases c with
 | true => exact ⟨H1, I1, q1⟩
 | false => exact hb wh pins s1 σ H1 Q I1 q1
theorem CN (ha : PT X a tA) : PT X (.UnaryOp .Not a pos) (MG tA) := by
 intro pins s σ H Q I h
 exact isTrue_not (ha pins s σ H (fun c H1 => Q (!c) H1) I h)
def Gv (ta tb : TE) : TE := fun σ H Q => ta σ H fun x H1 => ∃ c, x = .bl c ∧ if c = true then tb σ H1 Q else Q (.bl false) H1
def Nj (ta tb : TE) : TE := fun σ H Q => ta σ H fun x H1 => ∃ c, x = .bl c ∧ if c = true then Q (.bl true) H1 else tb σ H1 Q
def HL (ta : TE) : TE := fun σ H Q => ta σ H fun x H1 => ∃ c, x = .bl c ∧ Q (.bl (!c)) H1
theorem Na {op} {t : TE} (h : PE X a t) : PE X (.BoolOp op [a] pos) t := fun pins s σ H Q I hw => BoolOp_one (h pins s σ H Q I hw)
theorem Jd (ha : PE X a ta) (hb : PE X (.BoolOp .And (b :: rest) pos) tb) : PE X (.BoolOp .And (a :: b :: rest) pos) (Gv ta tb) := by
 intro pins s σ H Q I h
 refine BoolOp_and (thn (ha pins s σ H _ I h) fun v s1 ⟨x, H1, I1, r1, q1⟩ => ?_)
 obtain ⟨c, rfl, q1⟩ := q1
 cases r1
 refine wpAny_truthy_bool ?_
 cases c with
 | true => exact hb pins s1 σ H1 Q I1 q1
 | false => exact ⟨.bl false, H1, I1, rfl, q1⟩
theorem Qw (ha : PE X a ta) : PE X (.UnaryOp .Not a pos) (HL ta) := by
 intro pins s σ H Q I h
 refine UnaryOp_ (thn (ha pins s σ H _ I h) fun v s1 ⟨x, H1, I1, r1, q1⟩ => ?_)
 obtain ⟨c, rfl, q1⟩ := q1
 cases r1
 exact not_of (wpAny_truthy_bool ⟨.bl (!c), H1, I1, rfl, q1⟩)
def tIf (t : TT) (ta tb : TE) : TE := fun σ H Q => t σ H fun c H1 => if c = true then ta σ H1 Q else tb σ H1 Q
end
end L2
namespace L2
open PySem PySem.Spec PyProof.Rows
def SqL (K : PySem.W.Frag) (H : Hp) (a : Addr) (xs : List V) : Prop :=
 Rd H a (.lst xs) ∨
  ∃ (o : Obj) (its : Array Value) (n : Nat), K.lookup a = some o ∧ o.cls = .type "list" ∧ o.dict = none ∧ o.data = .seq its n ∧ its.size ≤ sizeLine ∧ Ag xs its.toList
def SqT (K : PySem.W.Frag) (H : Hp) (a : Addr) (xs : List V) : Prop :=
 Rd H a (.tup xs) ∨
  ∃ (o : Obj) (its : Array Value) (n : Nat), K.lookup a = some o ∧ o.cls = .type "tuple" ∧ o.data = .seq its n ∧ its.size ≤ sizeLine ∧ Ag xs its.toList
def absV : Value → Option V
 | .none => some .non
 | .bool b => some (.bl b)
 | .int i _ => some (.int i)
 | .str x _ => some (.str x)
 | .bytes b _ => some (.byt b)
 | .float b _ => some (.flt b)
 | .ref a => some (.ref a)
 | .type n => some (.ty n)
 | _ => none
theorem RelV.abs {x : V} {u : Value} (r : RelV x u) : absV u = some x := by
 cases x with
 | non => cases r; rfl
 | bl _ => cases r; rfl
 | int _ => obtain ⟨t, rfl⟩ := r; rfl
 | str _ => obtain ⟨t, rfl⟩ := r; rfl
 | byt _ => obtain ⟨t, rfl⟩ := r; rfl
 | flt _ => obtain ⟨t, rfl⟩ := r; rfl
 | ref _ => cases r; rfl
 | ty _ => cases r; rfl
theorem RelV.inj {x y : V} {u : Value} (r : RelV x u) (q : RelV y u) : x = y := Option.some.inj (r.abs.symm.trans q.abs)
theorem Ag.inj : ∀ {xs ys : List V} {us : List Value}, Ag xs us → Ag ys us → xs = ys
 | _, _, _, .nil, .nil => rfl
 | _, _, _, .cons r t, .cons r' t' => by rw [r.inj r', Ag.inj t t']
section
variable {X : Cx} {pins : List (Addr × Obj)} {σ : St} {H : Hp} {s : Shared} {a : Addr} {xs ys : List V}
theorem SqL.of {K : PySem.W.Frag} (h : H a = some (.lst xs)) : SqL K H a xs := .inl (.inl h)
theorem SqT.of {K : PySem.W.Frag} (h : H a = some (.tup xs)) : SqT K H a xs := .inl (.inl h)
theorem Inv.list (I : Inv X pins σ H s) (h : SqL X.K H a xs) : ∃ its : List Value, Ag xs its ∧ PlainL s.heap a its.toArray ∧ xs.length ≤ sizeLine := by
 rcases h with h | ⟨o, its, n, hk, hc, hd, hs, hz, r⟩
 ·obtain ⟨z, its, n, r, e⟩ := h.ok I.hok
  exact ⟨its, r, ⟨_, n, e, rfl, rfl, rfl⟩, z⟩
 ·refine ⟨its.toList, r, ⟨o, n, I.kIn a o hk, hc, hd, by simpa using hs⟩, ?_⟩
  have e := r.length
  simp only [Array.length_toList] at e
  omega
theorem Inv.tuple (I : Inv X pins σ H s) (h : SqT X.K H a xs) : ∃ its : List Value, Ag xs its ∧ IsTup s.heap a its.toArray ∧ xs.length ≤ sizeLine := by
 rcases h with h | ⟨o, its, n, hk, hc, hs, hz, r⟩
 ·obtain ⟨z, its, r, p⟩ := h.ok I.hok
  exact ⟨its, r, p, z⟩
 ·refine ⟨its.toList, r, ⟨o, I.kIn a o hk, hc, n, by simpa using hs⟩, ?_⟩
  have e := r.length
  simp only [Array.length_toList] at e
  omega
theorem Inv.list_inj (I : Inv X pins σ H s) (h : SqL X.K H a xs) (h' : SqL X.K H a ys) : xs = ys := by
 obtain ⟨its, r, ⟨o, n, e, _, _, d⟩, _⟩ := I.list h
 obtain ⟨its', r', ⟨o', n', e', _, _, d'⟩, _⟩ := I.list h'
 rw [e] at e'; cases e'
 rw [d] at d'
 injection d' with d1 _
 have : its = its' := by simpa using congrArg Array.toList d1
 subst this
 exact r.inj r'
theorem Inv.tuple_inj (I : Inv X pins σ H s) (h : SqT X.K H a xs) (h' : SqT X.K H a ys) : xs = ys := by
 obtain ⟨its, r, ⟨o, e, _, n, d⟩, _⟩ := I.tuple h
 obtain ⟨its', r', ⟨o', e', _, n', d'⟩, _⟩ := I.tuple h'
 rw [e] at e'; cases e'
 rw [d] at d'
 injection d' with d1 _
 have : its = its' := by simpa using congrArg Array.toList d1
 subst this
 exact r.inj r'
end
abbrev Cx.wish (X : Cx) (E : Value → Shared → Prop) : Cx := { X with xe := E }
abbrev Cx.nox (X : Cx) : Cx := X.wish fun _ _ => False
theorem Cx.Ok.wish {X : Cx} (ok : X.Ok) (E : Value → Shared → Prop) : (X.wish E).Ok :=
 ⟨ok.mod, ok.kind, ok.glob, ok.blt, ok.above, ok.inj, ok.has, ok.cab, ok.hd, ok.frames, ok.stk, ok.exf, ok.bs, ok.bsz, ok.noex, ok.exfs, ok.funs, ok.frf⟩
theorem Cx.Ok.unwish {X : Cx} {E : Value → Shared → Prop} (ok : (X.wish E).Ok) : X.Ok :=
 ⟨ok.mod, ok.kind, ok.glob, ok.blt, ok.above, ok.inj, ok.has, ok.cab, ok.hd, ok.frames, ok.stk, ok.exf, ok.bs, ok.bsz, ok.noex, ok.exfs, ok.funs, ok.frf⟩
section
variable {X : Cx} {pins : List (Addr × Obj)} {σ : St} {H : Hp} {s : Shared} {E : Value → Shared → Prop}
theorem Inv.wish (I : Inv X pins σ H s) (E : Value → Shared → Prop) : Inv (X.wish E) pins σ H s := ⟨I.ok.wish E, I.os, I.bare, I.base, I.loc, I.cell, I.free, I.freeC, I.pin, I.hok, I.len⟩
theorem Inv.unwish (I : Inv (X.wish E) pins σ H s) : Inv X pins σ H s := ⟨I.ok.unwish, I.os, I.bare, I.base, I.loc, I.cell, I.free, I.freeC, I.pin, I.hok, I.len⟩
theorem SP.unwish {D : Ld} {f : Flow} {s' : Shared} (h : SP (X.wish E) pins D f s') : SP X pins D f s' := by
 cases f with
 | next => obtain ⟨σ', H', I, q⟩ := h; exact ⟨σ', H', I.unwish, q⟩
 | brk => obtain ⟨σ', H', I, q⟩ := h; exact ⟨σ', H', I.unwish, q⟩
 | cont => obtain ⟨σ', H', I, q⟩ := h; exact ⟨σ', H', I.unwish, q⟩
 | ret u => obtain ⟨v, σ', H', I, r, q⟩ := h; exact ⟨v, σ', H', I.unwish, r, q⟩
theorem PSs.nox {st : List Stmt} {t : TS} (h : PSs X.nox st t) : PSs X st t := fun pins s σ H D I hw =>
 wpAny_mono (h pins s σ H D (I.wish _) hw) (fun _ _ q => q.unwish) fun _ _ z => False.elim z
end
section
variable {X : Cx} {st : Stmt} {rest : List Stmt} {t u : TS} {e : Expr} {te : TE} {pos : Pos}
def LK : TS := fun D σ H => D.nx σ H
def OJ (t u : TS) : TS := fun D σ H => t { D with nx := u D } σ H
theorem AS : PSs X [] LK := fun _ _ σ H _ I h => wpAny_execs_nil ⟨σ, H, I, h⟩
theorem AD (h1 : PS X st t) (h2 : PSs X rest u) : PSs X (st :: rest) (OJ t u) := by
 intro pins s σ H D I h
 refine wpAny_execs_cons (thn (h1 pins s σ H { D with nx := u D } I h) fun f s1 q => ?_)
 cases f with
 | next =>
  obtain ⟨σ', H', I', q⟩ := q
  exact h2 pins s1 σ' H' D I' q
 | ret v => exact q
 | brk => exact q
 | cont => exact q
theorem AE (h1 : PS X st t) : PSs X [st] t := by
 intro pins s σ H D I h
 refine wpAny_execs_cons (thn (h1 pins s σ H D I h) fun f s1 q => ?_)
 cases f with
 | next => exact wpAny_execs_nil q
 | ret v => exact q
 | brk => exact q
 | cont => exact q
def Ji : TS := fun D σ H => D.bk σ H
def Mi : TS := fun D σ H => D.ct σ H
theorem Inv.quiet {pins : List (Addr × Obj)} {σ : St} {H : Hp} {s : Shared} (I : Inv X pins σ H s) : interactive X.env = false := by simp [interactive, I.ok.kind]
def Kl (te : TE) : TS := fun D σ H => te σ H fun _ H1 => D.nx σ H1
theorem BB (he : PE X e te) (hs : swapsWith e none pos.line X.env = pure false := by rfl) : PS X (.Expr e pos) (Kl te) := by
 intro pins s σ H D I h
 exact wpAny_Expr_any (thn (he pins s σ H _ I h) fun v s1 ⟨x, H1, I1, r1, q1⟩ => ⟨σ, H1, I1, q1⟩) I.quiet hs
def O5 (te : TE) : TS := fun D σ H => te σ H D.rt
theorem AM (he : PE X e te) : PS X (.Return (some e) pos) (O5 te) := by
 intro pins s σ H D I h
 exact wpAny_Return_some (thn (he pins s σ H _ I h) fun v s1 ⟨x, H1, I1, r1, q1⟩ => ⟨x, σ, H1, I1, r1, q1⟩)
def Mj : TS := fun D _ H => D.rt .non H
def Ou (c : TT) (t u : TS) : TS := fun D σ H => c σ H fun b H1 => if b = true then t D σ H1 else u D σ H1
theorem Af {c : Expr} {a b : List Stmt} {tc : TT} (hc : PT X c tc) (ha : PSs X a t) (hb : PSs X b u) : PS X (.If c a b pos) (Ou tc t u) := by
 intro pins s σ H D I h
 refine wpAny_If (thn (hc pins s σ H _ I h) fun d s1 ⟨H1, I1, q1⟩ => ?_)
 cases d with
 | true => exact ha pins s1 σ H1 D I1 q1
 | false => exact hb pins s1 σ H1 D I1 q1
end
abbrev TG := V → St → Hp → (St → Hp → Prop) → Prop
abbrev TGs := List V → St → Hp → (St → Hp → Prop) → Prop
def PG (X : Cx) (target : Expr) (t : TG) : Prop :=
 ∀ (pins : List (Addr × Obj)) (s : Shared) (σ : St) (H : Hp) (v : V) (u : Value) (Q : St → Hp → Prop), Inv X pins σ H s → RelV v u → t v σ H Q →
  wpAny (model X.prog X.w) X.A (assign target X.env u) (fun _ s' => ∃ σ' H', Inv X pins σ' H' s' ∧ Q σ' H') X.xe s
def PGs (X : Cx) (ts : List Expr) (t : TGs) : Prop :=
 ∀ (pins : List (Addr × Obj)) (s : Shared) (σ : St) (H : Hp) (vs : List V) (us : List Value) (Q : St → Hp → Prop), Inv X pins σ H s → Ag vs us → t vs σ H Q →
  wpAny (model X.prog X.w) X.A (assignInOrder ((assignEach ts X.env).map (·.2)) us) (fun _ s' => ∃ σ' H', Inv X pins σ' H' s' ∧ Q σ' H') X.xe s
abbrev Vf := V → V → V → Hp → (Hp → Prop) → Prop
def PSet (X : Cx) (t : Vf) : Prop :=
 ∀ (pins : List (Addr × Obj)) (s : Shared) (σ : St) (H : Hp) (o i v : V) (ov iv u : Value) (Q : Hp → Prop), Inv X pins σ H s → RelV o ov → RelV i iv → RelV v u → t o i v H Q →
  wpAny (model X.prog X.w) X.A (setItem ov iv u) (fun _ s' => ∃ H', Inv X pins σ H' s' ∧ Q H') X.xe s
section
variable {X : Cx} {pos : Pos}
def EO (i : Nat) : TG := fun v σ H Q => Q (σ.set i (some v)) H
theorem Pg {i : Nat} {x : Str} (hN : X.N.Nodup) (hi : X.N[i]? = some x) (hx : Loc X.env.scope x) (hf : X.fn x = true ∨ X.env.scope.names.lookup x = some .local := by first | exact .inl rfl | exact .inr rfl | assumption) : PG X (.Name x pos) (EO i) := by
 intro pins s σ H v u Q I r h
 exact wpAny_assign_Name (OV I hN hi hx r (fun s' I' => ⟨_, H, I', h⟩) hf)
def JV : TGs := fun vs σ H Q => vs = [] ∧ Q σ H
def EQ (t : TG) (u : TGs) : TGs := fun vs σ H Q => ∃ v r, vs = v :: r ∧ t v σ H fun σ' H' => u r σ' H' Q
theorem KZ : PGs X [] JV := by
 intro pins s σ H vs us Q I r h
 obtain ⟨e, h⟩ := h
 subst e
 cases r
 exact assignInOrder_nil ⟨σ, H, I, h⟩
theorem B7 {e : Expr} {es : List Expr} {t : TG} {u : TGs} (h1 : PG X e t) (h2 : PGs X es u)
  (hs : (assignEach (e :: es) X.env).map (·.2) = assign e X.env :: (assignEach es X.env).map (·.2) := by rfl) : PGs X (e :: es) (EQ t u) := by
 intro pins s σ H vs us Q I r h
 obtain ⟨v, vr, e1, h⟩ := h
 subst e1
 cases r with
 | cons r rr =>
  rw [hs]
  refine assignInOrder_cons (thn (h1 pins s σ H _ _ _ I r h) fun _ s1 ⟨σ1, H1, I1, q1⟩ => ?_)
  exact h2 pins s1 σ1 H1 _ _ Q I1 rr q1
def JC (K : PySem.W.Frag) (n : Nat) (t : TGs) : TG := fun v σ H Q => ∃ a xs, v = .ref a ∧ SqT K H a xs ∧ xs.length = n ∧ t xs σ H Q
theorem NL {es : List Expr} {k : Nat} {t : TGs} {n : Nat} (hc : X.calm = true) (h : PGs X es t)
  (hn : (assignEach es X.env).length = n := by rfl) (hst : (assignEach es X.env).findIdx? (·.1) = none := by rfl) : PG X (.Tuple es k pos) (JC X.K n t) := by
 intro pins s σ H v u Q I r hw
 obtain ⟨a, xs, e1, hq, hl, hw⟩ := hw
 subst e1
 cases r
 obtain ⟨its, rv, ht, hz⟩ := I.tuple hq
 refine assign_Tuple_tuple (I.ok.hd hc) ht (by simp [hn, ← hl, rv.length]) hst fun h' hx => ?_
 have I1 : Inv X pins σ H { s with heap := h' } := I.kept (t' := s.toks) fun b o e => hx b o (Nat.ne_of_lt (Heap.lt_size e)) e
 exact h pins _ σ H xs _ Q I1 (by simpa using rv) hw
def Ll (to ti : TE) (t : Vf) : TG := fun v σ H Q => to σ H fun o H1 => ti σ H1 fun i H2 => t o i v H2 fun H3 => Q σ H3
theorem RX {o i : Expr} {to ti : TE} {t : Vf} (ho : PE X o to) (hi : PE X i ti) (hs : PSet X t)
  (ha : ∀ v, assign (.Subscript o i pos) X.env v = (do
   let ov ← holding [v] (eval o X.env)
   let iv ← holding [v, ov] (eval i X.env)
   standAt pos
   holding [v, ov, iv] (setItem ov iv v)
   release [v, ov, iv] []) := by intro _; rfl) : PG X (.Subscript o i pos) (Ll to ti t) := by
 intro pins s σ H v u Q I r h
 rw [ha]
 refine wpAny_bind (wpAny_holding (thn (ho pins s σ H _ I h) fun ov s1 ⟨x, H1, I1, r1, q1⟩ => ?_))
 refine wpAny_bind (wpAny_holding (thn (hi pins s1 σ H1 _ I1 q1) fun iv s2 ⟨y, H2, I2, r2, q2⟩ => ?_))
 refine wpAny_bind (wpAny_standAt (wpAny_bind (wpAny_holding (thn (hs pins s2 σ H2 x y v ov iv u _ I2 r1 r2 r q2) fun _ s3 ⟨H3, I3, q3⟩ => ?_))))
 exact wpAny_release ⟨σ, H3, I3, q3⟩
def Lz (te : TE) (g : TG) : TS := fun D σ H => te σ H fun x H1 => g x σ H1 D.nx
theorem On {tg e : Expr} {te : TE} {g : TG} (he : PE X e te) (hg : PG X tg g) (hs : swapsWithSole [tg] e pos.line X.env = pure false := by rfl) (hw : swappedStores [tg] e X.env = pure none := by rfl)
  (h1 : (assignEach [tg] X.env).map (·.2) = [assign tg X.env] := by rfl) : PS X (.Assign [tg] e pos) (Lz te g) := by
 intro pins s σ H D I h
 refine wpAny_Assign_stores (thn (he pins s σ H _ I h) fun v s1 ⟨x, H1, I1, r1, q1⟩ => ?_) hs hw
 rw [h1]
 exact thn (hg pins s1 σ H1 x v _ I1 r1 q1) fun _ s2 q => q
theorem Tn {i : Nat} {x : Str} {e : Expr} {te : TE} {pos' : Pos} (hN : X.N.Nodup) (hi : X.N[i]? = some x) (hx : Loc X.env.scope x) (he : PE X e te) (hs : swapsWith e (some (.Name x pos')) pos.line X.env = pure false := by rfl) (hf : X.fn x = true ∨ X.env.scope.names.lookup x = some .local := by first | exact .inl rfl | exact .inr rfl | assumption) :
  PS X (.Assign [.Name x pos'] e pos) (Lz te (EO i)) := by
 intro pins s σ H D I h
 refine wpAny_Assign_Name (thn (he pins s σ H _ I h) fun v s1 ⟨y, H1, I1, r1, q1⟩ => ?_) hs
 exact OV I1 hN hi hx r1 (fun s2 I2 => ⟨_, H1, I2, q1⟩) hf
def Qq (i j : Nat) (ta : TA) : TS := fun D σ H => ta σ H fun vs H1 => ∃ v w, vs = [v, w] ∧ D.nx ((σ.set i (some v)).set j (some w)) H1
end
section
variable {X : Cx} {pos : Pos}
def U0 (c : TT) (tb : TS) : TS := fun D σ H => ∃ W : Nat → St → Hp → Prop, (∃ m, W m σ H) ∧ ∀ m σ H, W m σ H →
 c σ H fun b H1 => if b = true then ∃ N : St → Hp → Prop, (∀ σ' H', N σ' H' → ∃ m', m' < m ∧ W m' σ' H') ∧ tb { D with nx := N, ct := N, bk := D.nx } σ H1 else D.nx σ H1
theorem Rm {c : Expr} {body : List Stmt} {tc : TT} {tb : TS} (hp : PassesOwn (model X.prog X.w) X.A X.env X.xe) (hc : PT X c tc) (hb : PSs X body tb) : PS X (.While c body [] pos) (U0 tc tb) := by
 intro pins s σ H D I h
 obtain ⟨W, ⟨m0, w0⟩, turn⟩ := h
 refine wpAny_While (codeAny_whileLoop (fun n s' => ∃ σ' H', Inv X pins σ' H' s' ∧ W n σ' H') ?_ m0 ⟨σ, H, I, w0⟩)
 rintro n s1 ⟨σ1, H1, I1, w1⟩
 refine wpAny_passesOwn hp (thn (hc pins s1 σ1 H1 _ I1 (turn n σ1 H1 w1)) fun b s2 ⟨H2, I2, q2⟩ => ?_)
 cases b with
 | true =>
  obtain ⟨N, hN, q2⟩ := q2
  rw [if_pos rfl]
  refine wpAny_passesOwn hp (thn (hb pins s2 σ1 H2 _ I2 q2) fun f s3 q3 => ?_)
  cases f with
  | next =>
   obtain ⟨σ3, H3, I3, n3⟩ := q3
   obtain ⟨m', hm, w3⟩ := hN σ3 H3 n3
   exact ⟨m', hm, σ3, H3, I3, w3⟩
  | cont =>
   obtain ⟨σ3, H3, I3, n3⟩ := q3
   obtain ⟨m', hm, w3⟩ := hN σ3 H3 n3
   exact ⟨m', hm, σ3, H3, I3, w3⟩
  | brk => exact q3
  | ret v => exact q3
 | false =>
  rw [if_neg Bool.false_ne_true]
  exact wpAny_execs_nil ⟨σ1, H2, I2, q2⟩
end
structure It where
 go : Nat → Hp → Prop
 yld : Nat → Hp → V → Hp → Prop
 stop : Nat → Hp → Prop
def KS (X : Cx) (pins : List (Addr × Obj)) (H : Hp) (b : Addr) : Prop :=
 H b = none ∧ b ≠ X.env.locals ∧ b ∉ X.fs ∧ (b ∈ X.ex ∨ X.s₀.heap.objs.size ≤ b) ∧ (∀ x c, X.env.cells.lookup x = some c → c ≠ b) ∧ ∀ p ∈ X.pn ++ pins, p.1 ≠ b
theorem Inv.fpOk {X : Cx} {pins : List (Addr × Obj)} {σ : St} {H H' : Hp} {s : Shared} {b : Addr} (I : Inv X pins σ H s) (hb : s.heap.objs.size ≤ b) (hn : H' b = none) : KS X pins H' b := by
 refine ⟨hn, Nat.ne_of_gt (Nat.lt_of_lt_of_le I.lt hb), I.nofs hb, .inr (Nat.le_trans I.sz hb), fun x c e z => ?_, fun p hp z => ?_⟩
 ·obtain ⟨v, q⟩ := I.cell x c e
  exact absurd (Nat.lt_of_lt_of_le q.lt (by rw [z]; exact hb)) (Nat.lt_irrefl _)
 ·exact absurd (Nat.lt_of_lt_of_le (Heap.lt_size (I.pin p hp).1) (by rw [z]; exact hb)) (Nat.lt_irrefl _)
structure QG (P : Program) (w : World) (K : PySem.W.Frag) (tg : Expr) (J : It) (fp : List Addr) (it : Addr) (tn : Nat → Heap → Prop) : Prop where
 mem : it ∈ fp
 obj : ∀ i h, tn i h → ∀ b ∈ fp, ∃ o, h.get? b = some o ∧ ∀ v, o.data ≠ .cell v
 keep : ∀ i h h', tn i h → (∀ b ∈ fp, ∀ o, h.get? b = some o → h'.get? b = some o) → tn i h'
 item : ∀ (X : Cx), X.prog = P → X.w = w → X.K = K → X.calm = true → ∀ (i : Nat) (pins : List (Addr × Obj)) (s : Shared) (σ : St) (H : Hp) (E : Value → Shared → Prop), Inv X pins σ H s → (∀ b ∈ fp, KS X pins H b) → tn i s.heap → J.go i H →
  wpAny (model P w) X.A (pyNext (.ref it)) (fun r s1 => ∃ u, r = some u ∧
   wpAny (model P w) X.A (letOwnedTupleGo tg (.ref it) u) (fun _ s2 => ∃ x H', Inv X pins σ H' s2 ∧ RelV x u ∧ J.yld i H x H' ∧ tn (i + 1) s2.heap ∧ ∀ b ∈ fp, H' b = none) E s1) E s
 done : ∀ (X : Cx), X.prog = P → X.w = w → X.K = K → X.calm = true → ∀ (i : Nat) (pins : List (Addr × Obj)) (s : Shared) (σ : St) (H : Hp) (E : Value → Shared → Prop), Inv X pins σ H s → (∀ b ∈ fp, KS X pins H b) → tn i s.heap → J.stop i H →
  wpAny (model P w) X.A (pyNext (.ref it)) (fun r s1 => r = none ∧ Inv X pins σ H s1) E s
 self : ∀ (A : Around) (i : Nat) (s : Shared) (Q : Value → Shared → Prop) (E : Value → Shared → Prop), tn i s.heap → Q (.ref it) s → wpAny (model P w) A (pyIter (.ref it)) Q E s
abbrev TI := St → Hp → (It → Hp → Prop) → Prop
def PIE (X : Cx) (pins : List (Addr × Obj)) (σ : St) (tg : Expr) (R : It → Hp → Prop) (itv : Value) (s2 : Shared) : Prop :=
 ∃ (it : Addr) (fp : List Addr) (tn : Nat → Heap → Prop) (J : It) (H' : Hp), itv = .ref it ∧ Inv X pins σ H' s2 ∧ QG X.prog X.w X.K tg J fp it tn ∧ tn 0 s2.heap ∧ (∀ b ∈ fp, KS X pins H' b) ∧ R J H'
def PI (X : Cx) (tg iter : Expr) (wi : TI) : Prop :=
 ∀ (pins : List (Addr × Obj)) (s : Shared) (σ : St) (H : Hp) (R : It → Hp → Prop), Inv X pins σ H s → wi σ H R →
  wpAny (model X.prog X.w) X.A (eval iter X.env) (fun v s1 => wpAny (model X.prog X.w) X.A (pyIter v) (PIE X pins σ tg R) X.xe s1) X.xe s
theorem Ro {M : Model} {A : Around} {E : Value → Shared → Prop} {s : Shared} {tg : Expr} {it : Addr} {u : Value} {o : Obj} {n : String} {vs : Array Value} {Q : Unit → Shared → Prop} (ho : s.heap.get? it = some o) (hc : o.cls = .type n) (hd : o.data = .fields vs)
  (hn : ["enumerate", "zip", "dict_itemiterator", "dict_reverseitemiterator", "odict_iterator", "itertools.zip_longest", "itertools.pairwise"].contains n = false) (hQ : Q () s) : wpAny M A (letOwnedTupleGo tg (.ref it) u) Q E s := by
 unfold letOwnedTupleGo
 cases tg <;> first
  | exact wpAny_pure hQ
  | (cases u <;> first
    | exact wpAny_pure hQ
    | (refine wpAny_bind (wpAny_load ho ?_)
       rw [hc, hd]
       show wpAny M A (if (["enumerate", "zip", "dict_itemiterator", "dict_reverseitemiterator", "odict_iterator", "itertools.zip_longest", "itertools.pairwise"].contains n && vs[0]? == some (rawInt _)) = true then _ else _) Q E s
       rw [if_neg (by intro h; rw [hn, Bool.false_and] at h; cases h)]
       exact wpAny_pure hQ))
def Itl (K : PySem.W.Frag) (a : Addr) : It :=
 ⟨fun i H => ∃ xs x, SqL K H a xs ∧ xs[i]? = some x, fun i H x H' => H' = H ∧ ∀ xs, SqL K H a xs → xs[i]? = some x, fun i H => ∃ xs, SqL K H a xs ∧ xs.length ≤ i⟩
def Itt (K : PySem.W.Frag) (a : Addr) : It :=
 ⟨fun i H => ∃ xs x, SqT K H a xs ∧ xs[i]? = some x, fun i H x H' => H' = H ∧ ∀ xs, SqT K H a xs → xs[i]? = some x, fun i H => ∃ xs, SqT K H a xs ∧ xs.length ≤ i⟩
def Itr (lo : Int) (n : Nat) : It := ⟨fun i _ => i < n, fun i H x H' => H' = H ∧ x = .int (lo + i), fun i _ => n ≤ i⟩
theorem Qo {P : Program} {w : World} {K : PySem.W.Frag} {tg : Expr} (a it : Addr) : QG P w K tg (Itl K a) [it] it (fun i h => h.IsListIter it a i) where
 mem := by simp
 obj := fun i h st b hb => by
  have e : b = it := by simpa using hb
  subst e
  obtain ⟨o, e, c, d⟩ := st
  exact ⟨o, e, fun v z => by rw [d] at z; cases z⟩
 keep := fun i h h' st k => st.at fun o e => k it (by simp) o e
 item := by
  intro X hP hw hK hc i pins s σ H E I hf st hg
  subst hP hw hK
  obtain ⟨xs, x, hq, hx⟩ := hg
  obtain ⟨its, rv, p, hz⟩ := I.list hq
  obtain ⟨u, hu, ru⟩ := rv.get hx
  obtain ⟨f0, f1, f2, f3, f4, f5⟩ := hf it (by simp)
  refine wpAny_pyNext_list_item st p.isList (x := u) (by simpa using hu) fun h' st' sb => ?_
  have I1 : Inv X pins σ H { s with heap := h' } := I.turned (t' := s.toks) (fun b o hb e => (sb.2 b hb).trans e) f0 f1 f3 f4 f5
  obtain ⟨o, e, c, d⟩ := id st'
  exact ⟨u, rfl, Ro (s := { s with heap := h' }) e c d (by decide) ⟨x, H, I1, ru, ⟨rfl, fun ys hy => by rw [I.list_inj hy hq]; exact hx⟩, st', fun b hb => (hf b hb).1⟩⟩
 done := by
  intro X hP hw hK hc i pins s σ H E I hf st hg
  subst hP hw hK
  obtain ⟨xs, hq, hx⟩ := hg
  obtain ⟨its, rv, p, hz⟩ := I.list hq
  obtain ⟨f0, f1, f2, f3, f4, f5⟩ := hf it (by simp)
  have hl := rv.length
  exact wpAny_pyNext_list_end (I.ok.hd hc) st p.isList (by simp; omega) fun h' eb => ⟨rfl, I.turned (t' := s.toks) (fun b o hb e => eb b o hb e) f0 f1 f3 f4 f5⟩
 self := fun _ _ _ _ _ st h => wpAny_pyIter_listiter st h
theorem Oj {P : Program} {w : World} {K : PySem.W.Frag} {tg : Expr} (a it : Addr) : QG P w K tg (Itt K a) [it] it (fun i h => h.IsTupleIter it a i) where
 mem := by simp
 obj := fun i h st b hb => by
  have e : b = it := by simpa using hb
  subst e
  obtain ⟨o, e, c, d⟩ := st
  exact ⟨o, e, fun v z => by rw [d] at z; cases z⟩
 keep := fun i h h' st k => st.at fun o e => k it (by simp) o e
 item := by
  intro X hP hw hK hc i pins s σ H E I hf st hg
  subst hP hw hK
  obtain ⟨xs, x, hq, hx⟩ := hg
  obtain ⟨its, rv, p, hz⟩ := I.tuple hq
  obtain ⟨u, hu, ru⟩ := rv.get hx
  obtain ⟨f0, f1, f2, f3, f4, f5⟩ := hf it (by simp)
  refine wpAny_pyNext_tuple_item st (show s.heap.IsTuple a its.toArray from p) (x := u) (by simpa using hu) fun h' st' sb => ?_
  have I1 : Inv X pins σ H { s with heap := h' } := I.turned (t' := s.toks) (fun b o hb e => (sb.2 b hb).trans e) f0 f1 f3 f4 f5
  obtain ⟨o, e, c, d⟩ := id st'
  exact ⟨u, rfl, Ro (s := { s with heap := h' }) e c d (by decide) ⟨x, H, I1, ru, ⟨rfl, fun ys hy => by rw [I.tuple_inj hy hq]; exact hx⟩, st', fun b hb => (hf b hb).1⟩⟩
 done := by
  intro X hP hw hK hc i pins s σ H E I hf st hg
  subst hP hw hK
  obtain ⟨xs, hq, hx⟩ := hg
  obtain ⟨its, rv, p, hz⟩ := I.tuple hq
  obtain ⟨f0, f1, f2, f3, f4, f5⟩ := hf it (by simp)
  have hl := rv.length
  exact wpAny_pyNext_tuple_end (I.ok.hd hc) st (show s.heap.IsTuple a its.toArray from p) (by simp; omega) fun h' eb => ⟨rfl, I.turned (t' := s.toks) (fun b o hb e => eb b o hb e) f0 f1 f3 f4 f5⟩
 self := fun _ _ _ _ _ st h => wpAny_pyIter_tupleiter st h
theorem O1 {P : Program} {w : World} {K : PySem.W.Frag} {tg : Expr} (it : Addr) (lo : Int) (n : Nat) : QG P w K tg (Itr lo n) [it] it (fun i h => IsRangeIter h it (lo + (i : Nat) * 1) ((n : Int) - (i : Nat)) 1) where
 mem := by simp
 obj := fun i h st b hb => by
  have e : b = it := by simpa using hb
  subst e
  exact ⟨_, st, fun v z => by
   have z' : Data.fields _ = Data.cell v := z
   cases z'⟩
 keep := fun i h h' st k => k it (by simp) _ st
 item := by
  intro X hP hw hK hc i pins s σ H E I hf st hg
  subst hP hw hK
  obtain ⟨f0, f1, f2, f3, f4, f5⟩ := hf it (by simp)
  have W := Walks.range (prog := X.prog) (w := X.w) (I.ok.hd hc) it lo 1 n
  refine W.item i s _ _ hg st fun v h' tk hv st' kk => ?_
  obtain ⟨t, rfl⟩ := hv
  have I1 : Inv X pins σ H { s with heap := h', toks := tk } := I.turned (fun b o hb e => kk b o (by simpa using hb) e) f0 f1 f3 f4 f5
  refine ⟨_, rfl, Ro (s := { s with heap := h', toks := tk }) (n := "range_iterator") st' rfl rfl (by decide) ⟨.int (lo + i), H, I1, ⟨t, ?_⟩, ⟨rfl, rfl⟩, st', fun b hb => (hf b hb).1⟩⟩
  rw [Int.mul_one]
 done := by
  intro X hP hw hK hc i pins s σ H E I hf st hg
  subst hP hw hK
  obtain ⟨f0, f1, f2, f3, f4, f5⟩ := hf it (by simp)
  exact wpAny_pyNext_range_end (I.ok.hd hc) st (by have : n ≤ i := hg; omega) fun h' eb => ⟨rfl, I.turned (t' := s.toks) (fun b o hb e => eb b o hb e) f0 f1 f3 f4 f5⟩
 self := fun _ _ _ _ _ st h => wpAny_pyIter_rangeiter st h
end L2
namespace L2
open PySem PySem.Spec PyProof.Rows
section
variable {X : Cx} {tg : Expr}
def IU (K : PySem.W.Frag) (tl : TE) : TI := fun σ H R => tl σ H fun x H1 => ∃ a, x = .ref a ∧ (∃ xs, SqL K H1 a xs) ∧ R (Itl K a) H1
def iTup (K : PySem.W.Frag) (tl : TE) : TI := fun σ H R => tl σ H fun x H1 => ∃ a, x = .ref a ∧ (∃ xs, SqT K H1 a xs) ∧ R (Itt K a) H1
theorem BV {l : Expr} {tl : TE} (hl : PE X l tl) : PI X tg l (IU X.K tl) := by
 intro pins s σ H R I h
 refine thn (hl pins s σ H _ I h) fun v s1 ⟨x, H1, I1, r1, q1⟩ => ?_
 obtain ⟨a, e, ⟨xs, hq⟩, q⟩ := q1
 subst e
 cases r1
 obtain ⟨its, rv, p, hz⟩ := I1.list hq
 refine wpAny_pyIter_list p.isList ?_
 refine ⟨s1.heap.objs.size, [s1.heap.objs.size], _, _, H1, rfl, I1.kept (t' := s1.toks) fun b o e => Heap.get?_push_of_some _ e, Qo a _, ⟨_, Heap.get?_push_size _ rfl, rfl, rfl⟩, fun b hb => ?_, q⟩
 have e : b = s1.heap.objs.size := by simpa using hb
 subst e
 exact I1.fpOk (Nat.le_refl _) (I1.hok.fresh (Nat.le_refl _))
theorem R5 {l : Expr} {tl : TE} (hl : PE X l tl) : PI X tg l (iTup X.K tl) := by
 intro pins s σ H R I h
 refine thn (hl pins s σ H _ I h) fun v s1 ⟨x, H1, I1, r1, q1⟩ => ?_
 obtain ⟨a, e, ⟨xs, hq⟩, q⟩ := q1
 subst e
 cases r1
 obtain ⟨its, rv, p, hz⟩ := I1.tuple hq
 refine wpAny_pyIter_tuple (show s1.heap.IsTuple a its.toArray from p) ?_
 refine ⟨s1.heap.objs.size, [s1.heap.objs.size], _, _, H1, rfl, I1.kept (t' := s1.toks) fun b o e => Heap.get?_push_of_some _ e, Oj a _, ⟨_, Heap.get?_push_size _ rfl, rfl, rfl⟩, fun b hb => ?_, q⟩
 have e : b = s1.heap.objs.size := by simpa using hb
 subst e
 exact I1.fpOk (Nat.le_refl _) (I1.hok.fresh (Nat.le_refl _))
theorem OK {pins : List (Addr × Obj)} {σ : St} {H : Hp} {s : Shared} {R : It → Hp → Prop} {E : Value → Shared → Prop} {lo hi : Int} {t u v : Tok} {tk : Nat} (I : Inv X pins σ H s) (h1 : -(2 ^ 62) ≤ lo) (h2 : lo < 2 ^ 62) (h3 : -(2 ^ 62) ≤ hi) (h4 : hi < 2 ^ 62)
  (q : R (Itr lo (hi - lo).toNat) H) : wpAny (model X.prog X.w) X.A (pyIter (.ref s.heap.objs.size)) (PIE X pins σ tg R) E { s with heap := s.heap.push { cls := .type "range", data := .fields #[.int lo t, .int hi u, .int 1 v] }, toks := tk } := by
 refine wpAny_pyIter_range (IsRange.new ..) (small_one h1 h2 h3 h4) ?_
 have I1 : Inv X pins σ H { s with heap := s.heap.push { cls := .type "range", data := .fields #[.int lo t, .int hi u, .int 1 v] }, toks := tk } := I.kept fun b o e => Heap.get?_push_of_some _ e
 refine ⟨(s.heap.push { cls := .type "range", data := .fields #[.int lo t, .int hi u, .int 1 v] }).objs.size, [(s.heap.push { cls := .type "range", data := .fields #[.int lo t, .int hi u, .int 1 v] }).objs.size], _, _, H, rfl,
  I1.kept (t' := tk) fun b o e => Heap.get?_push_of_some _ e, O1 _ lo (hi - lo).toNat, ?_, fun b hb => ?_, q⟩
 ·have e1 : lo + ((0 : Nat) : Int) * 1 = lo := by simp
  have e2 : (((hi - lo).toNat : Nat) : Int) - ((0 : Nat) : Int) = Builtin.Range.rangeSize lo hi 1 := by rw [rangeSize_one]; split <;> omega
  show IsRangeIter _ _ (lo + ((0 : Nat) : Int) * 1) ((((hi - lo).toNat : Nat) : Int) - ((0 : Nat) : Int)) 1
  rw [e1, e2]
  exact Heap.get?_push_size _ rfl
 ·have e : b = (s.heap.push { cls := .type "range", data := .fields #[.int lo t, .int hi u, .int 1 v] }).objs.size := by simpa using hb
  subst e
  exact I1.fpOk (Nat.le_refl _) (I1.hok.fresh (Nat.le_refl _))
def G5 (ta : TA) : TI := fun σ H R => ta σ H fun vs H1 => ∃ j : Int, vs = [.int j] ∧ -(2 ^ 62) ≤ j ∧ j < 2 ^ 62 ∧ R (Itr 0 j.toNat) H1
def HM (ta : TA) : TI := fun σ H R => ta σ H fun vs H1 => ∃ i j : Int, vs = [.int i, .int j] ∧ (-(2 ^ 62) ≤ i ∧ i < 2 ^ 62 ∧ -(2 ^ 62) ≤ j ∧ j < 2 ^ 62) ∧ R (Itr i (j - i).toNat) H1
theorem Bm {a : Expr} {ta : TA} {p pos : Pos} (hg : Gl X "range") (hm : X.mg "range" = none) (ha : PA X [a] ta) (hs : starEach [a] X.env = [(false, eval a X.env)] := by rfl) : PI X tg (.Call (.Name "range" p) [a] [] pos) (G5 ta) := by
 intro pins s σ H R I h
 refine Call_ (HQ I hg hm boot_range (PyProof.Rows.callWith_type1 (thn (ha pos pins s σ H _ I h) fun us s1 ⟨vs, H1, I1, r1, q1⟩ => ?_) hs rfl))
 obtain ⟨j, e, q1, q2, q⟩ := q1
 subst e
 cases r1 with
 | cons r rr =>
  cases rr
  obtain ⟨t, rfl⟩ := r
  exact call_range_1 (OK I1 (by omega) (by omega) q1 q2 (by simpa using q))
theorem M5 {a b : Expr} {ta : TA} {p pos : Pos} (hg : Gl X "range") (hm : X.mg "range" = none) (ha : PA X [a, b] ta) (hs : starEach [a, b] X.env = [(false, eval a X.env), (false, eval b X.env)] := by rfl) (hs2 : starEach [b] X.env = [(false, eval b X.env)] := by rfl) :
  PI X tg (.Call (.Name "range" p) [a, b] [] pos) (HM ta) := by
 intro pins s σ H R I h
 refine Call_ (HQ I hg hm boot_range (PyProof.Rows.callWith_type1 (thn (ha pos pins s σ H _ I h) fun us s1 ⟨vs, H1, I1, r1, q1⟩ => ?_) (by rw [hs, hs2]) (by rw [hs2]; rfl)))
 obtain ⟨i, j, e, ⟨q1, q2, q3, q4⟩, q⟩ := q1
 subst e
 cases r1 with
 | cons r rr =>
  cases rr with
  | cons r' rr =>
   cases rr
   obtain ⟨t, rfl⟩ := r
   obtain ⟨t', rfl⟩ := r'
   exact call_range_2 (OK I1 q1 q2 q3 q4 q)
def tFor (wi : TI) (g : TG) (tb : TS) : TS := fun D σ H => wi σ H fun J H1 => ∃ W : Nat → Nat → St → Hp → Prop, (∃ m, W 0 m σ H1) ∧ ∀ i m σ H, W i m σ H →
 (J.stop i H ∧ D.nx σ H) ∨ (J.go i H ∧ ∃ N : St → Hp → Prop, (∀ σ' H', N σ' H' → ∃ m', m' < m ∧ W (i + 1) m' σ' H') ∧ ∀ x H', J.yld i H x H' → g x σ H' fun σ2 H2 => tb { D with nx := N, ct := N, bk := D.nx } σ2 H2)
def LD (fp : List Addr) (h : Heap) : List (Addr × Obj) := fp.filterMap fun b => (h.get? b).map fun o => (b, o)
theorem E3 {fp : List Addr} {h : Heap} {b : Addr} {o : Obj} (hb : b ∈ fp) (e : h.get? b = some o) : (b, o) ∈ LD fp h := List.mem_filterMap.mpr ⟨b, hb, by rw [e]; rfl⟩
theorem Qe {fp : List Addr} {h : Heap} {p : Addr × Obj} (hp : p ∈ LD fp h) : p.1 ∈ fp ∧ h.get? p.1 = some p.2 := by
 obtain ⟨b, hb, e⟩ := List.mem_filterMap.mp hp
 cases q : h.get? b with
 | none => rw [q] at e; cases e
 | some o =>
  rw [q] at e
  have e' : (b, o) = p := Option.some.inj e
  subst e'
  exact ⟨hb, q⟩
theorem Inv.pinned {pins : List (Addr × Obj)} {σ : St} {H : Hp} {s : Shared} {fp : List Addr} (I : Inv X pins σ H s) (hf : ∀ b ∈ fp, KS X pins H b) (ho : ∀ b ∈ fp, ∃ o, s.heap.get? b = some o ∧ ∀ v, o.data ≠ .cell v) : Inv X (pins ++ LD fp s.heap) σ H s :=
 I.pins_of fun p hp => (List.mem_append.mp hp).elim (fun z => I.pin p (List.mem_append_right _ z)) fun z => by
  obtain ⟨hb, e⟩ := Qe z
  obtain ⟨f0, f1, f2, _⟩ := hf p.1 hb
  obtain ⟨o, e', d⟩ := ho p.1 hb
  rw [e] at e'; cases e'
  exact ⟨e, f0, f1, f2, d⟩
theorem Inv.unpinned {pins pl : List (Addr × Obj)} {σ : St} {H : Hp} {s : Shared} (I : Inv X (pins ++ pl) σ H s) : Inv X pins σ H s := I.pins_of fun p hp => I.pin p (List.mem_append_right _ (List.mem_append_left _ hp))
theorem BF {iter : Expr} {body : List Stmt} {wi : TI} {g : TG} {tb : TS} {pos : Pos} (hp : PassesOwn (model X.prog X.w) X.A X.env X.xe) (hc : X.calm = true) (hi : PI X tg iter wi) (hg : PG X tg g) (hb : PSs X body tb)
  (hs : ∀ x, foldedSetIterable iter X.env x = pure x := by intro _; rfl) : PS X (.For tg iter body [] pos) (tFor wi g tb) := by
 intro pins s σ H D I h
 refine wpAny_For (thn (hi pins s σ H _ I h) fun v s1 h1 => thn h1 fun itv s2 h2 => ?_) hs
 obtain ⟨it, fp, tn, J, H2, e, I2, T, st2, f2, W, ⟨m0, w0⟩, turn⟩ := h2
 subst e
 have stat : ∀ {H' : Hp}, (∀ b ∈ fp, H' b = none) → ∀ b ∈ fp, KS X pins H' b := fun hn b hb => ⟨hn b hb, (f2 b hb).2⟩
 refine codeAny_forLoop_any (fun n s' => ∃ i σ' H', Inv X pins σ' H' s' ∧ tn i s'.heap ∧ (∀ b ∈ fp, H' b = none) ∧ W i n σ' H') ?_ m0 ⟨0, σ, H2, I2, st2, fun b hb => (f2 b hb).1, w0⟩
 rintro n s3 ⟨i, σ3, H3, I3, st3, fr3, w3⟩
 rcases turn i n σ3 H3 w3 with ⟨stop, qn⟩ | ⟨go, N, hN, step⟩
 ·refine wpAny_passesOwn hp (thn (T.done X rfl rfl rfl hc i pins s3 σ3 H3 X.xe I3 (stat fr3) st3 stop) fun r s4 ⟨hr, I4⟩ => ?_)
  subst hr
  exact wpAny_execs_nil ⟨σ3, H3, I4, qn⟩
 ·refine wpAny_passesOwn hp (thn (T.item X rfl rfl rfl hc i pins s3 σ3 H3 X.xe I3 (stat fr3) st3 go) fun r s4 ⟨u, hr, h4⟩ => ?_)
  subst hr
  refine wpAny_passesOwn hp (thn h4 fun _ s5 ⟨x, H5, I5, r5, y5, st5, fr5⟩ => ?_)
  have I5' := I5.pinned (stat fr5) (T.obj _ _ st5)
  refine wpAny_passesOwn hp (thn (hg _ s5 σ3 H5 x u _ I5' r5 (step x H5 y5)) fun _ s6 ⟨σ6, H6, I6, q6⟩ => ?_)
  refine wpAny_passesOwn hp (thn (hb _ s6 σ6 H6 _ I6 q6) fun f s7 q7 => ?_)
  have again : ∀ {σ7 : St} {H7 : Hp}, Inv X (pins ++ LD fp s5.heap) σ7 H7 s7 → N σ7 H7 → ∃ m, m < n ∧ ∃ i σ' H', Inv X pins σ' H' s7 ∧ tn i s7.heap ∧ (∀ b ∈ fp, H' b = none) ∧ W i m σ' H' := fun {σ7 H7} I7 n7 => by
   obtain ⟨m', hm, w7⟩ := hN σ7 H7 n7
   refine ⟨m', hm, i + 1, σ7, H7, I7.unpinned, T.keep _ _ _ st5 fun b hb o e => (I7.pin (b, o) (List.mem_append_right _ (List.mem_append_right _ (E3 hb e)))).1, fun b hb => ?_, w7⟩
   obtain ⟨o, e, d⟩ := T.obj _ _ st5 b hb
   exact (I7.pin (b, o) (List.mem_append_right _ (List.mem_append_right _ (E3 hb e)))).2.1
  cases f with
  | next => obtain ⟨σ7, H7, I7, n7⟩ := q7; exact again I7 n7
  | cont => obtain ⟨σ7, H7, I7, n7⟩ := q7; exact again I7 n7
  | brk => obtain ⟨σ7, H7, I7, q7⟩ := q7; exact ⟨σ7, H7, I7.unpinned, q7⟩
  | ret v => obtain ⟨x7, σ7, H7, I7, r7, q7⟩ := q7; exact ⟨x7, σ7, H7, I7.unpinned, r7, q7⟩
end
theorem ER {K : PySem.W.Frag} {a : Addr} {xs : List V} {g : TG} {tb : TS} {D : Ld} {σ : St} {H : Hp} (Pv : Nat → St → Hp → Prop) (h0 : Pv 0 σ H) (hl : ∀ i σ H, i ≤ xs.length → Pv i σ H → SqL K H a xs)
  (hs : ∀ i x σ H, xs[i]? = some x → Pv i σ H → g x σ H fun σ2 H2 => tb { D with nx := Pv (i + 1), ct := Pv (i + 1), bk := D.nx } σ2 H2) (hd : ∀ σ H, Pv xs.length σ H → D.nx σ H) :
  ∃ W : Nat → Nat → St → Hp → Prop, (∃ m, W 0 m σ H) ∧ ∀ i m σ H, W i m σ H →
   ((Itl K a).stop i H ∧ D.nx σ H) ∨ ((Itl K a).go i H ∧ ∃ N : St → Hp → Prop, (∀ σ' H', N σ' H' → ∃ m', m' < m ∧ W (i + 1) m' σ' H') ∧ ∀ x H', (Itl K a).yld i H x H' → g x σ H' fun σ2 H2 => tb { D with nx := N, ct := N, bk := D.nx } σ2 H2) := by
 refine ⟨fun i m σ H => m = xs.length - i ∧ i ≤ xs.length ∧ Pv i σ H, ⟨xs.length, by simp, Nat.zero_le _, h0⟩, ?_⟩
 rintro i m σ H ⟨rfl, hi, p⟩
 have q := hl i σ H hi p
 by_cases hlt : i < xs.length
 ·refine .inr ⟨⟨xs, xs[i], q, by simp [hlt]⟩, Pv (i + 1), fun σ' H' p' => ⟨xs.length - (i + 1), by omega, rfl, hlt, p'⟩, fun x H' y => ?_⟩
  obtain ⟨e, y⟩ := y
  subst e
  exact hs i x σ _ (y xs q) p
 ·have e : i = xs.length := by omega
  subst e
  exact .inl ⟨⟨xs, q, Nat.le_refl _⟩, hd σ H p⟩
theorem P1 {K : PySem.W.Frag} {a : Addr} {xs : List V} {g : TG} {tb : TS} {D : Ld} {σ : St} {H : Hp} (Pv : Nat → St → Hp → Prop) (h0 : Pv 0 σ H) (hl : ∀ i σ H, i ≤ xs.length → Pv i σ H → SqT K H a xs)
  (hs : ∀ i x σ H, xs[i]? = some x → Pv i σ H → g x σ H fun σ2 H2 => tb { D with nx := Pv (i + 1), ct := Pv (i + 1), bk := D.nx } σ2 H2) (hd : ∀ σ H, Pv xs.length σ H → D.nx σ H) :
  ∃ W : Nat → Nat → St → Hp → Prop, (∃ m, W 0 m σ H) ∧ ∀ i m σ H, W i m σ H →
   ((Itt K a).stop i H ∧ D.nx σ H) ∨ ((Itt K a).go i H ∧ ∃ N : St → Hp → Prop, (∀ σ' H', N σ' H' → ∃ m', m' < m ∧ W (i + 1) m' σ' H') ∧ ∀ x H', (Itt K a).yld i H x H' → g x σ H' fun σ2 H2 => tb { D with nx := N, ct := N, bk := D.nx } σ2 H2) := by
 refine ⟨fun i m σ H => m = xs.length - i ∧ i ≤ xs.length ∧ Pv i σ H, ⟨xs.length, by simp, Nat.zero_le _, h0⟩, ?_⟩
 rintro i m σ H ⟨rfl, hi, p⟩
 have q := hl i σ H hi p
 by_cases hlt : i < xs.length
 ·refine .inr ⟨⟨xs, xs[i], q, by simp [hlt]⟩, Pv (i + 1), fun σ' H' p' => ⟨xs.length - (i + 1), by omega, rfl, hlt, p'⟩, fun x H' y => ?_⟩
  obtain ⟨e, y⟩ := y
  subst e
  exact hs i x σ _ (y xs q) p
 ·have e : i = xs.length := by omega
  subst e
  exact .inl ⟨⟨xs, q, Nat.le_refl _⟩, hd σ H p⟩
theorem A0 {lo : Int} {n : Nat} {g : TG} {tb : TS} {D : Ld} {σ : St} {H : Hp} (Pv : Nat → St → Hp → Prop) (h0 : Pv 0 σ H)
  (hs : ∀ i σ H, i < n → Pv i σ H → g (.int (lo + i)) σ H fun σ2 H2 => tb { D with nx := Pv (i + 1), ct := Pv (i + 1), bk := D.nx } σ2 H2) (hd : ∀ σ H, Pv n σ H → D.nx σ H) :
  ∃ W : Nat → Nat → St → Hp → Prop, (∃ m, W 0 m σ H) ∧ ∀ i m σ H, W i m σ H →
   ((Itr lo n).stop i H ∧ D.nx σ H) ∨ ((Itr lo n).go i H ∧ ∃ N : St → Hp → Prop, (∀ σ' H', N σ' H' → ∃ m', m' < m ∧ W (i + 1) m' σ' H') ∧ ∀ x H', (Itr lo n).yld i H x H' → g x σ H' fun σ2 H2 => tb { D with nx := N, ct := N, bk := D.nx } σ2 H2) := by
 refine ⟨fun i m σ H => m = n - i ∧ i ≤ n ∧ Pv i σ H, ⟨n, by simp, Nat.zero_le _, h0⟩, ?_⟩
 rintro i m σ H ⟨rfl, hi, p⟩
 by_cases hlt : i < n
 ·refine .inr ⟨hlt, Pv (i + 1), fun σ' H' p' => ⟨n - (i + 1), by omega, rfl, hlt, p'⟩, fun x H' y => ?_⟩
  obtain ⟨e, y⟩ := y
  subst e y
  exact hs i σ _ hlt p
 ·have e : i = n := by omega
  subst e
  exact .inl ⟨Nat.le_refl _, hd σ H p⟩
end L2
namespace L2
open PySem PySem.Spec PyProof.Rows
abbrev R2 := V → V → Hp → VK → Prop
def OpR (X : Cx) (f : Value → Value → Sem Value) (r : R2) : Prop :=
 ∀ (pins : List (Addr × Obj)) (s : Shared) (σ : St) (H : Hp) (x y : V) (v u : Value) (Q : VK), Inv X pins σ H s → RelV x v → RelV y u → r x y H Q →
  wpAny (model X.prog X.w) X.A (f v u) (EP X pins σ Q) X.xe s
def UnR (X : Cx) (f : Value → Sem Value) (r : V → Hp → VK → Prop) : Prop :=
 ∀ (pins : List (Addr × Obj)) (s : Shared) (σ : St) (H : Hp) (x : V) (v : Value) (Q : VK), Inv X pins σ H s → RelV x v → r x H Q →
  wpAny (model X.prog X.w) X.A (f v) (EP X pins σ Q) X.xe s
def CB (X : Cx) (f : Value) (r : List V → Hp → VK → Prop) : Prop :=
 ∀ (pins : List (Addr × Obj)) (s : Shared) (σ : St) (H : Hp) (xs : List V) (us : List Value) (Q : VK), Inv X pins σ H s → Ag xs us → r xs H Q →
  wpAny (model X.prog X.w) X.A (call f us) (EP X pins σ Q) X.xe s
def tOp (r : R2) (ta tb : TE) : TE := fun σ H Q => ta σ H fun x H1 => tb σ H1 fun y H2 => r x y H2 Q
def tUn (r : V → Hp → VK → Prop) (ta : TE) : TE := fun σ H Q => ta σ H fun x H1 => r x H1 Q
def rI (C : Int → Int → Prop) (g : Int → Int → V) : R2 := fun x y H Q => ∃ i j, x = .int i ∧ y = .int j ∧ C i j ∧ Q (g i j) H
def rI0 (g : Int → Int → V) : R2 := fun x y H Q => ∃ i j, x = .int i ∧ y = .int j ∧ Q (g i j) H
def rU (g : Int → V) : V → Hp → VK → Prop := fun x H Q => ∃ i, x = .int i ∧ Q (g i) H
section
variable {X : Cx} {a b c : Expr} {ta tb tc : TE} {pos : Pos}
theorem VC (ha : PE X a ta) (hb : PE X b tb) {pins : List (Addr × Obj)} {s : Shared} {σ : St} {H : Hp} {R : V → V → Hp → Prop} (I : Inv X pins σ H s)
  (h : ta σ H fun x H1 => tb σ H1 fun y H2 => R x y H2) {Q : Value → Shared → Prop} {f : Value → Value → Sem Value}
  (hf : ∀ v u s2 x y H2, Inv X pins σ H2 s2 → RelV x v → RelV y u → R x y H2 → wpAny (model X.prog X.w) X.A (f v u) Q X.xe s2) :
  wpAny (model X.prog X.w) X.A (eval a X.env) (fun v s₁ => wpAny (model X.prog X.w) X.A (eval b X.env) (fun u s₂ => wpAny (model X.prog X.w) X.A (f v u) Q X.xe s₂) X.xe s₁) X.xe s := by
 refine thn (ha pins s σ H _ I h) fun v s1 ⟨x, H1, I1, r1, q1⟩ => ?_
 refine thn (hb pins s1 σ H1 _ I1 q1) fun u s2 ⟨y, H2, I2, r2, q2⟩ => ?_
 exact hf v u s2 x y H2 I2 r1 r2 q2
theorem AK {op : Operator} {r : R2} (ho : OpR X (binaryOp op) r) (ha : PE X a ta) (hb : PE X b tb) : PE X (.BinOp a op b pos) (tOp r ta tb) := by
 intro pins s σ H Q I h
 exact wpAny_BinOp (VC ha hb I h fun v u s2 x y H2 I2 rx ry q => ho pins s2 σ H2 x y v u Q I2 rx ry q)
theorem Fa {op : UnaryOp} {r : V → Hp → VK → Prop} (ho : UnR X (unaryOp op) r) (ha : PE X a ta) : PE X (.UnaryOp op a pos) (tUn r ta) := by
 intro pins s σ H Q I h
 exact UnaryOp_ (thn (ha pins s σ H _ I h) fun v s1 ⟨x, H1, I1, r1, q1⟩ => ho pins s1 σ H1 x v Q I1 r1 q1)
theorem opI {f : Value → Value → Sem Value} {C : Int → Int → Prop} {g : Int → Int → Int}
  (rule : ∀ (i j : Int) (t u : Tok) (s : Shared) (Q : Value → Shared → Prop) (E : Value → Shared → Prop), C i j → Q (.int (g i j) s.toks) { s with toks := s.toks + 1 } → wpAny (model X.prog X.w) X.A (f (.int i t) (.int j u)) Q E s) :
  OpR X f (rI C fun i j => .int (g i j)) := by
 intro pins s σ H x y v u Q I rx ry h
 obtain ⟨i, j, rfl, rfl, hc, q⟩ := h
 obtain ⟨t, rfl⟩ := rx
 obtain ⟨t', rfl⟩ := ry
 exact rule i j t t' s _ _ hc ⟨.int (g i j), H, I.tok _, ⟨_, rfl⟩, q⟩
theorem opI0 {f : Value → Value → Sem Value} {g : Int → Int → Int}
  (rule : ∀ (i j : Int) (t u : Tok) (s : Shared) (Q : Value → Shared → Prop) (E : Value → Shared → Prop), Q (.int (g i j) s.toks) { s with toks := s.toks + 1 } → wpAny (model X.prog X.w) X.A (f (.int i t) (.int j u)) Q E s) :
  OpR X f (rI0 fun i j => .int (g i j)) := by
 intro pins s σ H x y v u Q I rx ry h
 obtain ⟨i, j, rfl, rfl, q⟩ := h
 obtain ⟨t, rfl⟩ := rx
 obtain ⟨t', rfl⟩ := ry
 exact rule i j t t' s _ _ ⟨.int (g i j), H, I.tok _, ⟨_, rfl⟩, q⟩
theorem TH {f : Value → Value → Sem Value} {g : Int → Int → Bool}
  (rule : ∀ (i j : Int) (t u : Tok) (s : Shared) (Q : Value → Shared → Prop) (E : Value → Shared → Prop), Q (.bool (g i j)) s → wpAny (model X.prog X.w) X.A (f (.int i t) (.int j u)) Q E s) :
  OpR X f (rI0 fun i j => .bl (g i j)) := by
 intro pins s σ H x y v u Q I rx ry h
 obtain ⟨i, j, rfl, rfl, q⟩ := h
 obtain ⟨t, rfl⟩ := rx
 obtain ⟨t', rfl⟩ := ry
 exact rule i j t t' s _ _ ⟨.bl (g i j), H, I, rfl, q⟩
def O7 (i j : Int) : Prop := 0 < j ∧ j < 1073741824
def Qr (i j : Int) : Prop := 0 ≤ j ∧ j ≤ 1000000 ∧ i.natAbs < 2 ^ 64
def NE (i j : Int) : Prop := (-(2 ^ 64) < i ∧ i < 2 ^ 64) ∨ (-(2 ^ 64) < j ∧ j < 2 ^ 64)
theorem NE.ok {i j : Int} (h : NE i j) : IntMulOk i j := by
 rcases h with ⟨h1, h2⟩ | ⟨h1, h2⟩
 ·exact .of_left (intBits_le_64 h1 h2)
 ·exact .of_right (intBits_le_64 h1 h2)
theorem Al : OpR X (binaryOp .Add) (rI0 fun i j => .int (i + j)) := opI0 fun _ _ _ _ _ _ _ q => add_int q
theorem An : OpR X (binaryOp .Sub) (rI0 fun i j => .int (i - j)) := opI0 fun _ _ _ _ _ _ _ q => sub_int q
theorem La : OpR X (binaryOp .Mult) (rI NE fun i j => .int (i * j)) := opI fun _ _ _ _ _ _ _ hc q => mul_int q hc.ok
theorem IT : OpR X (binaryOp .FloorDiv) (rI O7 fun i j => .int (i / j)) := opI fun i j _ _ _ _ _ hc q => by
 have h1 : (0 : Int) < j := hc.1
 have h2 : j < 1073741824 := hc.2
 exact floordiv_int (by omega) (by rw [Int.fdiv_eq_ediv_of_nonneg i (by omega)]; exact q) (.inl (PyProof.noPylong_small (by omega)))
theorem Aj : OpR X (binaryOp .Mod) (rI (fun _ j => 0 < j) fun i j => .int (i % j)) := opI fun i j _ _ _ _ _ hc q => by
 have h1 : (0 : Int) < j := hc
 exact mod_int' (by omega) (by rw [Int.fmod_eq_emod_of_nonneg i (by omega)]; exact q)
theorem SS : OpR X (binaryOp .Mod) (rI (fun _ j => j ≠ 0) fun i j => .int (i.fmod j)) := opI fun _ _ _ _ _ _ _ hc q => mod_int' hc q
theorem unI {f : Value → Sem Value} {g : Int → Int}
  (rule : ∀ (i : Int) (t : Tok) (s : Shared) (Q : Value → Shared → Prop) (E : Value → Shared → Prop), Q (.int (g i) s.toks) { s with toks := s.toks + 1 } → wpAny (model X.prog X.w) X.A (f (.int i t)) Q E s) :
  UnR X f (rU fun i => .int (g i)) := by
 intro pins s σ H x v Q I rx h
 obtain ⟨i, rfl, q⟩ := h
 obtain ⟨t, rfl⟩ := rx
 exact rule i t s _ _ ⟨.int (g i), H, I.tok _, ⟨_, rfl⟩, q⟩
theorem DR : UnR X (unaryOp .USub) (rU fun i => .int (-i)) := unI fun _ _ _ _ _ q => neg_int q
end
def N7 : V → V → Bool
 | .non, .non => true | .non, .int _ => true | .int _, .non => true | .non, .bl _ => true | .bl _, .non => true | .non, .str _ => true | .str _, .non => true
 | .int _, .int _ => true | .bl _, .bl _ => true | .str _, .str _ => true | .byt _, .byt _ => true
 | .int _, .str _ => true | .str _, .int _ => true | .bl _, .str _ => true | .str _, .bl _ => true
 | _, _ => false
def rEq : R2 := fun x y H Q => N7 x y = true ∧ Q (.bl (decide (x = y))) H
def rNe : R2 := fun x y H Q => N7 x y = true ∧ Q (.bl (!decide (x = y))) H
theorem Pd {i j : Int} : decide (V.int i = V.int j) = (i == j) := by
 rw [Bool.eq_iff_iff]
 simp
theorem Rj {i j : Bool} : decide (V.bl i = V.bl j) = (i == j) := by
 rw [Bool.eq_iff_iff]
 simp
theorem Pi {i j : Str} : decide (V.str i = V.str j) = (i == j) := by
 rw [Bool.eq_iff_iff]
 simp
theorem Pu {i j : Array UInt8} : decide (V.byt i = V.byt j) = (i.toList == j.toList) := by
 rw [Bool.eq_iff_iff]
 cases i
 cases j
 simp
section
variable {X : Cx} {a b c : Expr} {ta tb tc : TE} {pos : Pos}
theorem Ak {pins : List (Addr × Obj)} {σ : St} {H : Hp} {s : Shared} {Q : VK} {k k' : Bool} (I : Inv X pins σ H s) (q : Q (.bl k) H) (e : k = k') : EP X pins σ Q (.bool k') s := by
 subst e
 exact ⟨.bl k, H, I, rfl, q⟩
theorem B4 : OpR X (compareOp .Eq) rEq := by
 intro pins s σ H x y v u Q I rx ry h
 obtain ⟨hs, q⟩ := h
 cases x with
 | non =>
  cases rx
  cases y with
  | non => cases ry; exact PySem.EqNone.eq_none_none (Ak I q (by simp))
  | bl j => cases ry; exact PySem.EqNone.eq_none_bool (Ak I q (by simp))
  | int j => obtain ⟨t', rfl⟩ := ry; exact PySem.EqNone.eq_none_int (Ak I q (by simp))
  | str j => obtain ⟨t', rfl⟩ := ry; exact PySem.EqNone.eq_none_str (Ak I q (by simp))
  | _ => exact absurd (show false = true from hs) Bool.false_ne_true
 | bl i =>
  cases rx
  cases y with
  | non => cases ry; exact PySem.EqNone.eq_bool_none (Ak I q (by simp))
  | bl j => cases ry; exact eq_bool (Ak I q Rj)
  | str j => obtain ⟨t', rfl⟩ := ry; exact PySem.EqMixed.eq_bool_str (Ak I q (by simp))
  | _ => exact absurd (show false = true from hs) Bool.false_ne_true
 | int i =>
  obtain ⟨t, rfl⟩ := rx
  cases y with
  | non => cases ry; exact PySem.EqNone.eq_int_none (Ak I q (by simp))
  | int j => obtain ⟨t', rfl⟩ := ry; exact eq_int (Ak I q Pd)
  | str j => obtain ⟨t', rfl⟩ := ry; exact PySem.EqMixed.eq_int_str (Ak I q (by simp))
  | _ => exact absurd (show false = true from hs) Bool.false_ne_true
 | str i =>
  obtain ⟨t, rfl⟩ := rx
  cases y with
  | non => cases ry; exact PySem.EqNone.eq_str_none (Ak I q (by simp))
  | bl j => cases ry; exact PySem.EqMixed.eq_str_bool (Ak I q (by simp))
  | int j => obtain ⟨t', rfl⟩ := ry; exact PySem.EqMixed.eq_str_int (Ak I q (by simp))
  | str j => obtain ⟨t', rfl⟩ := ry; exact eq_str (Ak I q Pi)
  | _ => exact absurd (show false = true from hs) Bool.false_ne_true
 | byt i =>
  obtain ⟨t, rfl⟩ := rx
  cases y with
  | byt j => obtain ⟨t', rfl⟩ := ry; exact PySem.W.eq_bytes (Ak I q Pu)
  | _ => exact absurd (show false = true from hs) Bool.false_ne_true
 | _ => cases y <;> exact absurd (show false = true from hs) Bool.false_ne_true
theorem FB : OpR X (compareOp .NotEq) rNe := by
 intro pins s σ H x y v u Q I rx ry h
 obtain ⟨hs, q⟩ := h
 cases x with
 | non =>
  cases rx
  cases y with
  | non => cases ry; exact PySem.EqNone.ne_none_none (Ak I q (by simp))
  | bl j => cases ry; exact PySem.EqNone.ne_none_bool (Ak I q (by simp))
  | int j => obtain ⟨t', rfl⟩ := ry; exact PySem.EqNone.ne_none_int (Ak I q (by simp))
  | str j => obtain ⟨t', rfl⟩ := ry; exact PySem.EqNone.ne_none_str (Ak I q (by simp))
  | _ => exact absurd (show false = true from hs) Bool.false_ne_true
 | bl i =>
  cases rx
  cases y with
  | non => cases ry; exact PySem.EqNone.ne_bool_none (Ak I q (by simp))
  | bl j => cases ry; exact ne_bool (Ak I q (congrArg not Rj))
  | str j => obtain ⟨t', rfl⟩ := ry; exact PySem.EqMixed.ne_bool_str (Ak I q (by simp))
  | _ => exact absurd (show false = true from hs) Bool.false_ne_true
 | int i =>
  obtain ⟨t, rfl⟩ := rx
  cases y with
  | non => cases ry; exact PySem.EqNone.ne_int_none (Ak I q (by simp))
  | int j => obtain ⟨t', rfl⟩ := ry; exact ne_int (Ak I q (congrArg not Pd))
  | str j => obtain ⟨t', rfl⟩ := ry; exact PySem.EqMixed.ne_int_str (Ak I q (by simp))
  | _ => exact absurd (show false = true from hs) Bool.false_ne_true
 | str i =>
  obtain ⟨t, rfl⟩ := rx
  cases y with
  | non => cases ry; exact PySem.EqNone.ne_str_none (Ak I q (by simp))
  | bl j => cases ry; exact PySem.EqMixed.ne_str_bool (Ak I q (by simp))
  | int j => obtain ⟨t', rfl⟩ := ry; exact PySem.EqMixed.ne_str_int (Ak I q (by simp))
  | str j => obtain ⟨t', rfl⟩ := ry; exact ne_str (Ak I q (congrArg not Pi))
  | _ => exact absurd (show false = true from hs) Bool.false_ne_true
 | byt i =>
  obtain ⟨t, rfl⟩ := rx
  cases y with
  | byt j => obtain ⟨t', rfl⟩ := ry; exact PySem.W.ne_bytes (Ak I q (congrArg not Pu))
  | _ => exact absurd (show false = true from hs) Bool.false_ne_true
 | _ => cases y <;> exact absurd (show false = true from hs) Bool.false_ne_true
theorem FN : OpR X (compareOp .Lt) (rI0 fun i j => .bl (decide (i < j))) := TH fun _ _ _ _ _ _ _ q => lt_int q
theorem Tc : OpR X (compareOp .LtE) (rI0 fun i j => .bl (decide (i ≤ j))) := TH fun _ _ _ _ _ _ _ q => le_int q
theorem Jt : OpR X (compareOp .Gt) (rI0 fun i j => .bl (decide (j < i))) := TH fun _ _ _ _ _ _ _ q => gt_int q
theorem TY : OpR X (compareOp .GtE) (rI0 fun i j => .bl (decide (j ≤ i))) := TH fun _ _ _ _ _ _ _ q => ge_int q
theorem Kz : OpR X (compareOp .Is) (fun x y H Q => y = .non ∧ Q (.bl (decide (x = .non))) H) := by
 intro pins s σ H x y v u Q I rx ry h
 obtain ⟨rfl, q⟩ := h
 cases ry
 refine is_none_gen (Ak I q ?_)
 cases x <;> first
  | (cases rx; rfl)
  | (obtain ⟨t, rfl⟩ := rx; rfl)
theorem Rb (b : Expr) {op : CmpOp} (h : op ≠ .In := by decide) (h2 : op ≠ .NotIn := by decide) : behindInMarks op b = false := by
 have e1 : (op == CmpOp.In) = false := by cases op <;> first | rfl | exact absurd rfl h
 have e2 : (op == CmpOp.NotIn) = false := by cases op <;> first | rfl | exact absurd rfl h2
 cases b <;> simp [behindInMarks, e1, e2]
theorem QA {op : CmpOp} {r : R2} (ho : OpR X (compareOp op) r) (ha : PE X a ta) (hb : PE X b tb) (hm : behindInMarks op b = false) : PE X (.Compare a [op] [b] pos) (tOp r ta tb) := by
 intro pins s σ H Q I h
 exact wpAny_Compare1 (VC ha hb I h fun v u s2 x y H2 I2 rx ry q => ho pins s2 σ H2 x y v u Q I2 rx ry q) hm
def Ff (t : TE) : TT := fun σ H Q => t σ H fun x H' => ∃ k, x = .bl k ∧ Q k H'
theorem S7 {op : CmpOp} {r : R2} (ho : OpR X (compareOp op) r) (ha : PE X a ta) (hb : PE X b tb) (hm : behindInMarks op b = false) : PT X (.Compare a [op] [b] pos) (Ff (tOp r ta tb)) := by
 intro pins s σ H Q I h
 refine wpAny_isTrue_Compare1 (thn (ha pins s σ H _ I h) fun v s1 ⟨x, H1, I1, r1, q1⟩ => thn (hb pins s1 σ H1 _ I1 q1) fun u s2 ⟨y, H2, I2, r2, q2⟩ =>
  thn (ho pins s2 σ H2 x y v u _ I2 r1 r2 q2) fun c s3 ⟨z, H3, I3, r3, k, e, q3⟩ => ?_) hm
 subst e
 cases r3
 exact wpAny_truthy_bool ⟨H3, I3, q3⟩
theorem Lk : (sizeLine : Nat) < 2 ^ 63 := by rw [sizeLine_eq]; decide
theorem vals1 {x : V} {us : List Value} (r : Ag [x] us) : ∃ u, us = [u] ∧ RelV x u := by
 cases r with
 | cons r1 r2 => cases r2; exact ⟨_, rfl, r1⟩
theorem vals2 {x y : V} {us : List Value} (r : Ag [x, y] us) : ∃ u w', us = [u, w'] ∧ RelV x u ∧ RelV y w' := by
 cases r with
 | cons r1 r2 =>
  cases r2 with
  | cons r3 r4 => cases r4; exact ⟨_, _, rfl, r1, r3⟩
theorem Oc : CB X (.builtin "abs") (fun xs H Q => ∃ i, xs = [.int i] ∧ Q (.int (if i < 0 then -i else i)) H) := by
 intro pins s σ H xs us Q I r h
 obtain ⟨i, rfl, q⟩ := h
 obtain ⟨u, rfl, t, rfl⟩ := vals1 r
 exact call_abs_int fun u tk => ⟨.int (if i < 0 then -i else i), H, I.tok _, ⟨_, rfl⟩, q⟩
theorem JJ (hc : X.calm = true) : CB X (.builtin "max") (fun xs H Q => ∃ i j, xs = [.int i, .int j] ∧ Q (.int (if j > i then j else i)) H) := by
 intro pins s σ H xs us Q I r h
 obtain ⟨i, j, rfl, q⟩ := h
 obtain ⟨u, w', rfl, ⟨t, rfl⟩, ⟨t', rfl⟩⟩ := vals2 r
 refine max_two_ints (I.ok.hd hc) fun h' tk k => ⟨_, H, I.kept k, ?_, q⟩
 by_cases hj : j > i
 ·rw [if_pos hj, if_pos hj]; exact ⟨_, rfl⟩
 ·rw [if_neg hj, if_neg hj]; exact ⟨_, rfl⟩
theorem Mr (hc : X.calm = true) : CB X (.builtin "min") (fun xs H Q => ∃ i j, xs = [.int i, .int j] ∧ Q (.int (if j < i then j else i)) H) := by
 intro pins s σ H xs us Q I r h
 obtain ⟨i, j, rfl, q⟩ := h
 obtain ⟨u, w', rfl, ⟨t, rfl⟩, ⟨t', rfl⟩⟩ := vals2 r
 refine min_two_ints (I.ok.hd hc) fun h' tk k => ⟨_, H, I.kept k, ?_, q⟩
 by_cases hj : j < i
 ·rw [if_pos hj, if_pos hj]; exact ⟨_, rfl⟩
 ·rw [if_neg hj, if_neg hj]; exact ⟨_, rfl⟩
end
end L2
namespace L2
open PySem PySem.Spec PyProof.Rows
structure PB (h : Heap) (x dx C : Addr) (mA : Str → Option Value) : Prop where
 obj : h.get? x = some (PySem.W.instObj C dx)
 ns : h.Ns1 dx mA
 ne : dx ≠ x
theorem Qb {h : Heap} {dx : Addr} {mA : Str → Option Value} (n : h.Ns1 dx mA) : ∃ od, h.get? dx = some od ∧ ∀ name, PySem.W.lookIn name od = some (mA name) := by
 obtain ⟨o, es, ep, ho, hd, hk, _, hm⟩ := n
 refine ⟨o, ho, fun name => ?_⟩
 have e := hm name
 unfold nsFind findBy at e
 rw [← Array.find?_toList] at e
 unfold PySem.W.lookIn
 rw [hd]
 dsimp only
 split
 ·rename_i y q
  rw [q] at e
  exact congrArg some e
 ·rename_i q
  rw [q] at e
  have a : es.toList.any (·.refKey) = false := by
   rw [List.any_eq_false]
   intro y hy
   obtain ⟨z, t, hkey⟩ := hk y (Array.mem_toList_iff.mp hy)
   simp [DictEntry.refKey, hkey]
  have a' : ¬ es.toList.any (·.refKey) = true := by rw [a]; exact Bool.false_ne_true
  rw [if_neg a']
  exact congrArg some e
theorem PB.look {h : Heap} {x dx C : Addr} {mA : Str → Option Value} (I : PB h x dx C mA) : ∃ od, PySem.W.InstAt h x (PySem.W.instObj C dx) C (some od) ∧ ∀ name, PySem.W.lookIn name od = some (mA name) :=
 let ⟨od, ho, hl⟩ := Qb I.ns
 ⟨od, ⟨I.obj, rfl, rfl, ho⟩, hl⟩
section
variable {prog : Program} {w : World} {A : Around} {E : Value → Shared → Prop} {s : Shared} {K : PySem.W.Frag} {x dx C f : Addr} {mA : Str → Option Value} {name : Str} {v : Value}
theorem Su {expr : Bool} {Q : Value → Shared → Prop} (X : K.In s.heap) (I : PB s.heap x dx C mA) (hg : PySem.W.plainGet K C name = true) (hh : PySem.W.hasDictIn K C = true)
  (ha : PySem.W.findIn K (.ref C) name = some none) (hv : mA name = some v) (hv' : PySem.W.handedIn v = true) (h : Q v { s with toks := s.toks + 1 }) :
  wpAny (model prog w) A (getAttr (.ref x) name expr) Q E s := by
 obtain ⟨od, J, hl⟩ := I.look
 exact PySem.W.get_value X J (PySem.W.plainGet_of hg).1 (PySem.W.findObj_own hh ha rfl (by rw [hl, hv])) hv' h
theorem R8 {pl : Sem Bool} {Q : Value × List Value → Shared → Prop} (X : K.In s.heap) (I : PB s.heap x dx C mA) (hg : PySem.W.plainGet K C name = true)
  (hf : PySem.W.findIn K (.ref C) name = some (some (.ref f))) (ht : PySem.W.isFn K (.ref f) = true) (hv : mA name = none) (h : Q (.ref f, [.ref x]) s) :
  wpAny (model prog w) A (getMethod (.ref x) name pl) Q E s := by
 obtain ⟨od, J, hl⟩ := I.look
 exact PySem.W.method_fn X J (PySem.W.plainGet_of hg).1 (PySem.W.plainGet_of hg).2 hf (beq_iff_eq.mp ht) (by show (PySem.W.lookIn name od).map (·.isSome) = some false; rw [hl, hv]; rfl) h
theorem SL {ns : List Str} {Q : Unit → Shared → Prop} (X : K.In s.heap) (I : PB s.heap x dx C mA)
  (hs : PySem.W.findIn K (.ref C) "__setattr__" = some (some (.builtin "object.__setattr__"))) (hp : PySem.W.plainOver K C = true) (ht : PySem.W.takerIn K C name = some none) (hh : PySem.W.hasDictIn K C = true)
  (hw : PySem.Within mA ns) (hsz : ns.length ≤ sizeLine)
  (h : ∀ h', PB h' x dx C (fun y => if y = name then some v else mA y) → Heap.SameBut dx s.heap h' → Q () { s with heap := h', toks := s.toks + 2 }) :
  wpAny (model prog w) A (setAttr (.ref x) name v) Q E s := by
 obtain ⟨od, J, hl⟩ := I.look
 refine PySem.W.set_plain X J hs (PySem.W.osa_open (s := { s with toks := s.toks + 1 }) (r := none) X J hp ht fun b => ?_)
 obtain ⟨cd, hc, hd'⟩ := PySem.W.any_some hh
 have hx : s.heap.get? x = some ⟨.ref C, some dx, .plain, #[]⟩ := I.obj
 refine wpAny_bind (wpAny_pure (wpAny_bind (wpAny_bind (wpAny_loadPart hx (wpAny_bind (PySem.W.Looks.here (s := { s with toks := s.toks + 1 }) (PySem.W.looks_clsIn X hc) ?_))))))
 rw [hd']
 refine wpAny_pure (a := some dx) (wpAny_bind (wpAny_pure (wpAny_bind ?_)))
 refine wpAny_nsSet1 (s := { s with toks := s.toks + 1 }) I.ns fun h' hn2 hs2 => ?_
 obtain ⟨oD, esD, epD, hoD, hdD, hcD⟩ := hn2.count (PySem.Within.cons name v hw)
 refine wpAny_bind (wpAny_lookBehind hoD (by rw [hdD]; exact pastItsLine_dict (Nat.le_trans hcD (by rw [List.length_cons]; omega))) ?_)
 exact wpAny_pure (h _ ⟨(hs2.2 _ (Ne.symm I.ne)).trans I.obj, hn2, I.ne⟩ hs2)
theorem RK {R : Result → Shared → Prop} {vs : List Value} {kw : List (Str × Value)} (X : K.In s.heap) (hm : PySem.W.makesIn K C = true)
  (hi : PySem.W.findIn K (.ref C) "__init__" = some (some (.ref f))) (hf : PySem.W.typeIn K (.ref f) = some (.type "function"))
  (h : codeAny (model prog w) (A.under (.builtin "type.__call__" ⟨.ref C :: vs, kw⟩)) (.call (.ref f) ⟨.ref (s.heap.objs.size + 1) :: vs, kw⟩) (PySem.W.InitBack (s.heap.objs.size + 1) R)
   { s with heap := (s.heap.push PySem.W.emptyDict).push (PySem.W.instObj C s.heap.objs.size) }) :
  codeAny (model prog w) A (.call (.ref C) ⟨vs, kw⟩) R s := by
 obtain ⟨hh, g, d, t, os⟩ := s
 exact PySem.W.make_core (PySem.W.makes_of X hm) (PySem.W.looks_findIn X hi) (fun self => PySem.W.bind_fn X self hf) (.inl rfl) h
end
def Gd (f : Str) (v : V) : List (Str × V) → List (Str × V)
 | [] => [(f, v)]
 | (g, x) :: r => if g = f then (g, v) :: r else (g, x) :: Gd f v r
theorem Jy (f g : Str) (v : V) : ∀ fs : List (Str × V), (Gd f v fs).lookup g = if g = f then some v else fs.lookup g
 | [] => by
  show List.lookup g [(f, v)] = _
  by_cases h : g = f
  ·have hb : (g == f) = true := beq_iff_eq.mpr h
   simp only [List.lookup, hb, if_pos h]
  ·have hb : (g == f) = false := beq_eq_false_iff_ne.mpr h
   simp only [List.lookup, hb, if_neg h]
 | (k, x) :: r => by
  have ih := Jy f g v r
  rw [show Gd f v ((k, x) :: r) = (if k = f then (k, v) :: r else (k, x) :: Gd f v r) from rfl]
  by_cases hk : k = f
  ·rw [if_pos hk]
   by_cases h : g = k
   ·have hb : (g == k) = true := beq_iff_eq.mpr h
    simp only [List.lookup, hb, if_pos (h.trans hk)]
   ·have hb : (g == k) = false := beq_eq_false_iff_ne.mpr h
    simp only [List.lookup, hb, if_neg (fun e : g = f => h (e.trans hk.symm))]
  ·rw [if_neg hk]
   by_cases h : g = k
   ·have hb : (g == k) = true := beq_iff_eq.mpr h
    simp only [List.lookup, hb, if_neg (fun e : g = f => hk (h.symm.trans e))]
   ·have hb : (g == k) = false := beq_eq_false_iff_ne.mpr h
    simp only [List.lookup, hb]
    exact ih
theorem JO (f : Str) (v : V) : ∀ fs : List (Str × V), f ∈ (Gd f v fs).map (·.1) ∧ ∀ g, g ∈ fs.map (·.1) → g ∈ (Gd f v fs).map (·.1)
 | [] => ⟨by simp [Gd], fun g h => by simp at h⟩
 | (k, x) :: r => by
  obtain ⟨i1, i2⟩ := JO f v r
  rw [show Gd f v ((k, x) :: r) = (if k = f then (k, v) :: r else (k, x) :: Gd f v r) from rfl]
  by_cases hk : k = f
  ·rw [if_pos hk]
   subst hk
   exact ⟨by simp, fun g h => by simpa using h⟩
  ·rw [if_neg hk]
   refine ⟨?_, fun g h => ?_⟩
   ·rw [List.map_cons]
    exact List.mem_cons_of_mem _ i1
   ·rw [List.map_cons] at h ⊢
    rcases List.mem_cons.mp h with e | e
    ·exact List.mem_cons.mpr (.inl e)
    ·exact List.mem_cons_of_mem _ (i2 g e)
theorem J9 (f : Str) (v : V) : ∀ fs : List (Str × V), (Gd f v fs).length ≤ fs.length + 1
 | [] => by simp [Gd]
 | (k, x) :: r => by
  have ih := J9 f v r
  rw [show Gd f v ((k, x) :: r) = (if k = f then (k, v) :: r else (k, x) :: Gd f v r) from rfl]
  by_cases hk : k = f
  ·rw [if_pos hk, List.length_cons, List.length_cons]; omega
  ·rw [if_neg hk, List.length_cons, List.length_cons]; omega
theorem Hu.some_of {v : V} {o : Option Value} (r : Hu (some v) o) : ∃ u, o = some u ∧ RelV v u := by
 cases o with
 | none => exact (show False from r).elim
 | some u => exact ⟨u, rfl, r⟩
theorem Hu.none_of {o : Option Value} (r : Hu none o) : o = none := by
 cases o with
 | none => rfl
 | some u => exact (show False from r).elim
theorem Qn {v : V} {u : Value} (r : RelV v u) : PySem.W.handedIn u = true := by
 cases v with
 | non => cases (show u = Value.none from r); rfl
 | bl b => cases (show u = Value.bool b from r); rfl
 | int i => obtain ⟨t, e⟩ := (show ∃ t, u = Value.int i t from r); cases e; rfl
 | str x => obtain ⟨t, e⟩ := (show ∃ t, u = Value.str x t from r); cases e; rfl
 | byt b => obtain ⟨t, e⟩ := (show ∃ t, u = Value.bytes b t from r); cases e; rfl
 | flt b => obtain ⟨t, e⟩ := (show ∃ t, u = Value.float b t from r); cases e; rfl
 | ref a => cases (show u = Value.ref a from r); rfl
 | ty n => cases (show u = Value.type n from r); rfl
section
variable {P : Program} {w : World} {H H' : Hp} {h h' : Heap} {a C dx : Addr} {fs fs' : List (Str × V)}
theorem Hy (hok : HOk P w H h) (e : H a = some (.ins C dx fs)) : ∃ mA, PB h a dx C mA ∧ (∀ f, Hu (fs.lookup f) (mA f)) ∧ PySem.Within mA (fs.map (·.1)) ∧ fs.length ≤ 1000 ∧ H dx = some (.own a) := by
 obtain ⟨d, z, ne, ob, mA, n, r, q⟩ := (show As P w H h a (.ins C dx fs) from hok a _ e)
 exact ⟨mA, ⟨ob, n, ne⟩, r, q, z, d⟩
end
structure Cls (K : PySem.W.Frag) (C : Addr) : Prop where
 pg : PySem.W.plainGet K C Str.empty = true
 hd : PySem.W.hasDictIn K C = true
 po : PySem.W.plainOver K C = true
 sa : PySem.W.findIn K (.ref C) "__setattr__" = some (some (.builtin "object.__setattr__"))
theorem Cls.get {K : PySem.W.Frag} {C : Addr} (c : Cls K C) (f : Str) : PySem.W.plainGet K C f = true := c.pg
def Fg (K : PySem.W.Frag) (C : Addr) (f : Str) : Prop := PySem.W.findIn K (.ref C) f = some none
theorem Fg.taker {K : PySem.W.Frag} {C : Addr} {f : Str} (n : Fg K C f) : PySem.W.takerIn K C f = some none := by
 unfold PySem.W.takerIn
 rw [show PySem.W.findIn K (.ref C) f = some none from n]
 rfl
structure TB (K : PySem.W.Frag) (C : Addr) (m : Str) (f : Addr) : Prop where
 at_ : PySem.W.findIn K (.ref C) m = some (some (.ref f))
 fn : PySem.W.isFn K (.ref f) = true
 kp : PySem.W.keepIn K (.ref f) = true
section
variable {X : Cx} {pins : List (Addr × Obj)} {σ : St} {H : Hp} {s : Shared} {a C dx : Addr} {fs : List (Str × V)} {f : Str} {v : V} {A : Around} {E : Value → Shared → Prop}
theorem PM {b : Bool} {Q : Value → Shared → Prop} (I : Inv X pins σ H s) (e : H a = some (.ins C dx fs)) (c : Cls X.K C) (n : Fg X.K C f) (l : fs.lookup f = some v)
  (h : ∀ u s', Inv X pins σ H s' → RelV v u → Q u s') : wpAny (model X.prog X.w) A (getAttr (.ref a) f b) Q E s := by
 obtain ⟨mA, O, r, _, _, _⟩ := Hy I.hok e
 obtain ⟨u, hu, ru⟩ := Hu.some_of (v := v) (o := mA f) (by rw [← l]; exact r f)
 exact Su I.kIn O (c.get f) c.hd n hu (Qn ru) (h u _ (I.tok _) ru)
theorem Ky {m : Str} {g : Addr} {pl : Sem Bool} {Q : Value × List Value → Shared → Prop} (I : Inv X pins σ H s) (e : H a = some (.ins C dx fs)) (c : Cls X.K C) (k : TB X.K C m g) (l : fs.lookup m = none)
  (h : Q (.ref g, [.ref a]) s) : wpAny (model X.prog X.w) A (getMethod (.ref a) m pl) Q E s := by
 obtain ⟨mA, O, r, _, _, _⟩ := Hy I.hok e
 have hn : mA m = none := Hu.none_of (by rw [← l]; exact r m)
 exact R8 I.kIn O (c.get m) k.at_ k.fn hn h
theorem PH {y : V} {u : Value} {Q : Unit → Shared → Prop} (I : Inv X pins σ H s) (e : H a = some (.ins C dx fs)) (c : Cls X.K C) (n : Fg X.K C f) (hl : fs.length < 1000) (ry : RelV y u)
  (h : ∀ s', Inv X pins σ (upd H a (.ins C dx (Gd f y fs))) s' → Q () s') : wpAny (model X.prog X.w) A (setAttr (.ref a) f u) Q E s := by
 obtain ⟨mA, O, r, wi, _, ho⟩ := Hy I.hok e
 have hz : (fs.map (·.1)).length ≤ sizeLine := by rw [List.length_map, sizeLine_eq]; omega
 refine SL I.kIn O c.sa c.po n.taker c.hd wi hz fun h' O' sb => h _ ?_
 have hd : ∃ o, h'.get? dx = some o := let ⟨o, _, _, e', _⟩ := O'.ns; ⟨o, e'⟩
 refine I.write (x := a) (e := dx) (by rw [e]; exact True.intro) (.inr ho) (fun b q hb z => (sb.2 b hb).trans z) hd ?_
 refine ⟨by rw [AG O.ne]; exact ho, ?_, O.ne, O'.obj, _, O'.ns, fun g => ?_, fun g hg => ?_⟩
 ·have := J9 f y fs; omega
 ·show Hu ((Gd f y fs).lookup g) (if g = f then some u else mA g)
  rw [Jy]
  by_cases q : g = f
  ·rw [if_pos q, if_pos q]; exact ry
  ·rw [if_neg q, if_neg q]; exact r g
 ·by_cases q : g = f
  ·rw [q]; exact (JO f y fs).1
  ·refine (JO f y fs).2 g (wi g fun z => hg ?_)
   show (if g = f then some u else mA g) = none
   rw [if_neg q]; exact z
theorem Inv.made (I : Inv X pins σ H s) : Inv X pins σ (upd (upd H s.heap.objs.size (.own (s.heap.objs.size + 1))) (s.heap.objs.size + 1) (.ins C s.heap.objs.size []))
  { s with heap := (s.heap.push PySem.W.emptyDict).push (PySem.W.instObj C s.heap.objs.size) } := by
 have e1 : (s.heap.push PySem.W.emptyDict).get? s.heap.objs.size = some PySem.W.emptyDict := Heap.get?_push_size s.heap rfl
 have e2 : ((s.heap.push PySem.W.emptyDict).push (PySem.W.instObj C s.heap.objs.size)).get? (s.heap.objs.size + 1) = some (PySem.W.instObj C s.heap.objs.size) := by
  have := Heap.get?_push_size (s.heap.push PySem.W.emptyDict) (o := PySem.W.instObj C s.heap.objs.size) rfl
  rwa [Heap.size_push] at this
 have e3 : (s.heap.push PySem.W.emptyDict).Ns s.heap.objs.size (fun _ => none) := ⟨PySem.W.emptyDict, #[], _, e1, rfl, (fun e he => absurd he (by simp)), fun _ => rfl⟩
 have I1 := I.laid (a := s.heap.objs.size) (o := .own (s.heap.objs.size + 1)) (h' := s.heap.push PySem.W.emptyDict) (t' := s.toks) (fun b u q => Heap.get?_push_of_some _ q) (Nat.le_refl _) ⟨_, e1⟩
 refine I1.laid (a := s.heap.objs.size + 1) (o := .ins C s.heap.objs.size []) (t' := s.toks) (fun b u q => Heap.get?_push_of_some _ q) (Nat.le_of_eq (Heap.size_push _ _)) ?_
 have ne : s.heap.objs.size ≠ s.heap.objs.size + 1 := Nat.ne_of_lt (Nat.lt_succ_self _)
 refine ⟨by rw [AG ne, AO], Nat.zero_le _, ne, e2, fun _ => none, (Heap.Ns1.of_empty e3).at fun o q => Heap.get?_push_of_some _ q, fun _ => True.intro, fun y hy => absurd rfl hy⟩
theorem Sf {prog : Program} {w : World} {env : Env} {e : Expr} {f : Str} {pos : Pos} {s : Shared} {Q : Value → Shared → Prop} (hb : attributeBase e f env (eval e env) = eval e env)
  (h : wpAny (model prog w) A (eval e env) (fun o s₁ => wpAny (model prog w) A (getAttr o f true) Q E s₁) E s) : wpAny (model prog w) A (eval (.Attribute e f pos) env) Q E s :=
 Attribute_any_ h (by rw [arm_eval_Attribute, hb])
end
def Ls (K : PySem.W.Frag) (ta : TE) (f : Str) : TE := fun σ H Q => ta σ H fun x H1 => ∃ a C dx fs v, x = .ref a ∧ H1 a = some (.ins C dx fs) ∧ Cls K C ∧ Fg K C f ∧ fs.lookup f = some v ∧ Q v H1
def Ly (K : PySem.W.Frag) (ta tv : TE) (f : Str) : TS := fun D σ H => tv σ H fun y H1 => ta σ H1 fun x H2 => ∃ a C dx fs, x = .ref a ∧ H2 a = some (.ins C dx fs) ∧ Cls K C ∧ Fg K C f ∧ fs.length < 1000 ∧
 D.nx σ (upd H2 a (.ins C dx (Gd f y fs)))
section
variable {X : Cx} {o e value : Expr} {f : Str} {pos pos' tpos : Pos} {ta tv : TE}
theorem B0 (he : PE X e ta) (hb : attributeBase e f X.env (eval e X.env) = eval e X.env) : PE X (.Attribute e f pos) (Ls X.K ta f) := by
 intro pins s σ H Q I h
 refine Sf hb (thn (he pins s σ H _ I h) fun u s1 ⟨x, H1, I1, rx, a, C, dx, fs, v, ex, ea, c, n, l, q⟩ => ?_)
 subst ex
 obtain rfl : u = Value.ref a := rx
 exact PM I1 ea c n l fun u' s2 I2 ru => ⟨v, H1, I2, ru, q⟩
theorem Ow (ha : PE X o ta) (hv : PE X value tv) (hs : swapsWith value (some (.Attribute o f pos')) pos.line X.env = pure false) : PS X (.Assign [.Attribute o f pos'] value pos) (Ly X.K ta tv f) := by
 intro pins s σ H D I h
 refine plainObj_wpAny_Assign_Attribute (thn (hv pins s σ H _ I h) fun u s1 ⟨y, H1, I1, ry, q⟩ => thn (ha pins s1 σ H1 _ I1 q) fun ov s2 ⟨x, H2, I2, rx, a, C, dx, fs, ex, ea, c, n, l, q2⟩ => ?_) hs
 subst ex
 obtain rfl : ov = Value.ref a := rx
 exact PH I2 ea c n l ry fun s3 I3 => ⟨σ, _, I3, q2⟩
end
section
variable {X : Cx} {pins : List (Addr × Obj)} {σ : St} {H : Hp} {s : Shared} {A : Around} {E : Value → Shared → Prop} {Q : Value → Shared → Prop} {c : Value} {b : Bool}
inductive CJ (K : PySem.W.Frag) (H : Hp) : V → Value → Prop where
 | non : CJ K H .non (.type "NoneType")
 | bl (x : Bool) : CJ K H (.bl x) (.type "bool")
 | int (i : Int) : CJ K H (.int i) (.type "int")
 | str (x : Str) : CJ K H (.str x) (.type "str")
 | flt (x : UInt64) : CJ K H (.flt x) (.type "float")
 | lst {a : Addr} {xs : List V} (e : H a = some (.lst xs)) : CJ K H (.ref a) (.type "list")
 | frz {a : Addr} {o : Obj} {xs : List V} (e : H a = some (.frz o (.lst xs))) : CJ K H (.ref a) (.type "list")
 | tup {a : Addr} {xs : List V} (e : H a = some (.tup xs)) : CJ K H (.ref a) (.type "tuple")
 | dK {a : Addr} {kvs : List (Key × V)} (e : H a = some (.dK kvs)) : CJ K H (.ref a) (.type "dict")
 | dT {a : Addr} {kvs : List (List Key × V)} (e : H a = some (.dT kvs)) : CJ K H (.ref a) (.type "dict")
 | ins {a C dx : Addr} {fs : List (Str × V)} (e : H a = some (.ins C dx fs)) (cl : Cls K C) (ha : PySem.W.findIn K (.ref C) "__class__" = some (some (.builtin "object.__class__")))
   (hn : PySem.W.specialIn K (.builtin "object.__class__") "__get__" = some (some (.builtin "getset_descriptor.__get__"))) (htk : PySem.W.takesIn K (.builtin "object.__class__") = some true)
   (hm : PySem.W.mroIn K C (.type "object") = some true) : CJ K H (.ref a) (.ref C)
theorem QL {x : V} {u t : Value} (I : Inv X pins σ H s) (rx : RelV x u) (ty : CJ X.K H x t) (e : PySem.W.kitOne X.K t c = some b) (h : ∀ tk, Q (.bool b) { s with toks := tk }) :
  wpAny (model X.prog X.w) A (call (.builtin "isinstance") [u, c]) Q E s := by
 cases ty with
 | non => cases (show u = Value.none from rx); exact PySem.W.kia_one PySem.W.kitx_none I.kIn True.intro e (fun z => nomatch z) h
 | bl y => cases (show u = Value.bool y from rx); exact PySem.W.kia_one PySem.W.kitx_bool I.kIn True.intro e (fun z => nomatch z) h
 | int i => obtain ⟨t, q⟩ := (show ∃ t, u = Value.int i t from rx); cases q; exact PySem.W.kia_one PySem.W.kitx_int I.kIn True.intro e (fun z => nomatch z) h
 | str y => obtain ⟨t, q⟩ := (show ∃ t, u = Value.str y t from rx); cases q; exact PySem.W.kia_one PySem.W.kitx_str I.kIn True.intro e (fun z => nomatch z) h
 | flt y => obtain ⟨t, q⟩ := (show ∃ t, u = Value.float y t from rx); cases q; exact PySem.W.kia_one PySem.W.kitx_float I.kIn True.intro e (fun z => nomatch z) h
 | @lst a xs ea =>
  cases (show u = Value.ref a from rx)
  obtain ⟨_, _, n, _, h1⟩ := (show As X.prog X.w H s.heap a (.lst xs) from I.hok a _ ea)
  exact PySem.W.kia_one PySem.W.kitx_list I.kIn ⟨_, h1, rfl⟩ e (fun z => nomatch z) h
 | @frz a ob xs ea =>
  cases (show u = Value.ref a from rx)
  obtain ⟨_, _, _, n, _, h1⟩ := (show As X.prog X.w H s.heap a (.frz ob (.lst xs)) from I.hok a _ ea)
  exact PySem.W.kia_one PySem.W.kitx_list I.kIn ⟨_, h1, rfl⟩ e (fun z => nomatch z) h
 | @tup a xs ea =>
  cases (show u = Value.ref a from rx)
  obtain ⟨_, _, _, p⟩ := (show As X.prog X.w H s.heap a (.tup xs) from I.hok a _ ea)
  obtain ⟨o, h1, h2, _⟩ := p
  exact PySem.W.kia_one PySem.W.kitx_tuple I.kIn ⟨o, h1, h2⟩ e (fun z => nomatch z) h
 | @dK a kvs ea =>
  cases (show u = Value.ref a from rx)
  obtain ⟨_, _, vs, _, p⟩ := (show As X.prog X.w H s.heap a (.dK kvs) from I.hok a _ ea)
  obtain ⟨o, es, ep, h1, h2, _⟩ := p
  exact PySem.W.kia_one PySem.W.kitx_dict I.kIn ⟨o, h1, h2.1⟩ e (fun z => nomatch z) h
 | @dT a kvs ea =>
  cases (show u = Value.ref a from rx)
  obtain ⟨_, _, xs, _, o, es, ep, h1, h2, _⟩ := (show As X.prog X.w H s.heap a (.dT kvs) from I.hok a _ ea)
  exact PySem.W.kia_one PySem.W.kitx_dict I.kIn ⟨o, h1, h2.1⟩ e (fun z => nomatch z) h
 | @ins a C dx fs ea cl ha hn htk hm =>
  cases (show u = Value.ref a from rx)
  obtain ⟨mA, O, _⟩ := Hy I.hok ea
  obtain ⟨od, J, _⟩ := O.look
  exact PySem.W.kia_one (PySem.W.kitx_own (cl.get _) cl.hd ha hn htk hm) I.kIn J e (fun z => nomatch z) h
end
end L2
namespace L2
open PySem PySem.Spec PyProof.Rows
structure Bz (k : Nat) (A : Around) : Prop where
 hd : A.handled = none
 dp : A.depth + 3 * k + 5 < recursionLimit
 un : A.units + 16 * k + 200 < cLine
theorem Bz.mono {j k : Nat} {A : Around} (r : Bz k A) (h : j ≤ k) : Bz j A := ⟨r.hd, by have := r.dp; omega, by have := r.un; omega⟩
theorem Bz.deeper {k : Nat} {A : Around} (r : Bz (k + 1) A) (env : Env) : Bz k (A.deeper env) :=
 ⟨r.hd, by have := r.dp; show A.depth + 1 + 3 * k + 5 < _; omega, by have := r.un; show A.units + 3 + 16 * k + 200 < _; omega⟩
theorem PJ {A : Around} {C : Addr} {us : List Value} {kw : List (Str × Value)} : (A.under (.builtin "type.__call__" ⟨.ref C :: us, kw⟩)).depth = A.depth + 1 := by
 first | rfl | simp [Around.under, Code.weight, Code.isCreation, Code.isGuard, Code.isCaller, Code.frames, Code.isFrame, guardIds]
theorem Oi {A : Around} {C : Addr} {us : List Value} {kw : List (Str × Value)} : (A.under (.builtin "type.__call__" ⟨.ref C :: us, kw⟩)).units = A.units + 1 := by
 first | rfl | simp [Around.under, Code.cUnits, Code.frames, Code.isFrame]
theorem Bz.make {k : Nat} {A : Around} (r : Bz (k + 1) A) (C : Addr) (us : List Value) (kw : List (Str × Value)) : Bz k (A.under (.builtin "type.__call__" ⟨.ref C :: us, kw⟩)) :=
 ⟨r.hd, by have := r.dp; rw [PJ]; omega, by have := r.un; rw [Oi]; omega⟩
theorem Bz.depth {k : Nat} {A : Around} (r : Bz k A) : A.depth < recursionLimit := by have := r.dp; omega
theorem Bz.units {k : Nat} {A : Around} (r : Bz k A) : A.units + 64 < cLine := by have := r.un; omega
def KQ : TA := fun _ H Q => Q [] H
def HN (ta : TE) (tr : TA) : TA := fun σ H Q => ta σ H fun x H1 => tr σ H1 fun xs H2 => Q (x :: xs) H2
section
variable {X : Cx} {e : Expr} {es : List Expr} {te : TE} {t : TA} {pos : Pos}
theorem AC : PA X [] KQ := fun _ _ _ _ H Q I h => Calls.spliced_nil ⟨[], H, I, .nil, h⟩
theorem AA (ha : PE X e te) (hr : PA X es t) (hs : starEach (e :: es) X.env = (false, eval e X.env) :: starEach es X.env := by rfl) : PA X (e :: es) (HN te t) := by
 intro pos pins s σ H Q I h
 rw [hs]
 show wpAny _ _ (spliced ((false, eval e X.env) :: backTo pos (starEach es X.env))) _ _ s
 refine Calls.spliced_cons (thn (ha pins s σ H _ I h) fun u s1 ⟨x, H1, I1, r1, q1⟩ => ?_)
 exact thn (hr pos pins s1 σ H1 _ I1 q1) fun us s2 ⟨xs, H2, I2, r2, q2⟩ => ⟨x :: xs, H2, I2, .cons r1 r2, q2⟩
end
abbrev Sp := List V → Hp → VK → XK → Prop
abbrev CXT := List Env → Hp → Shared → XK → Value → Shared → Prop
structure PZ (P : Program) (w : World) (K : PySem.W.Frag) (mg : Str → Option Value) (base : Heap) (A : Around) (outer : List Env) (s : Shared) (H : Hp) : Prop where
 frames : A.frames = some outer
 mod : Mod K mg base
 bs : ∀ b o, base.get? b = some o → s.heap.get? b = some o ∧ H b = none
 bsz : base.objs.size ≤ s.heap.objs.size
 funs : s.heap.FunFrames base outer
 frf : ∀ b ∈ frs outer, H b = none
 hok : HOk P w H s.heap
 bare : AllBare s.gens
def CE (outer : List Env) (P : Program) (w : World) (H : Hp) (s : Shared) (Q : VK) (u : Value) (s' : Shared) : Prop :=
 ∃ v H', s'.os = s.os ∧ AllBare s'.gens ∧ Un (frs outer) [] H H' s.heap s'.heap ∧ HOk P w H' s'.heap ∧ RelV v u ∧ Q v H'
def CR (CX : CXT) (outer : List Env) (P : Program) (w : World) (H : Hp) (s : Shared) (Q : VK) (E : XK) (r : Result) (s' : Shared) : Prop :=
 match r with
 | .ok (.ret u) => CE outer P w H s Q u s'
 | .ok _ => False
 | .error e => CX outer H s E e s'
structure Ah (P : Program) (w : World) (K : PySem.W.Frag) (mg : Str → Option Value) (base : Heap) (CX : CXT) (k : Nat) (f : Addr) (fd : FuncData) (ps : List Str) (sp : Sp) : Prop where
 len : ∀ vs H Q E, sp vs H Q E → vs.length = ps.length
 run : ∀ (A : Around) (outer : List Env) (s : Shared) (H : Hp) (args : Args) (us : List Value) (vs : List V) (Q : VK) (E : XK), Bz k A → PZ P w K mg base A outer s H → BindsTo s fd args (ps.zip us) → Ag vs us → sp vs H Q E →
  codeAny (model P w) A (.call (.ref f) args) (CR CX outer P w H s Q E) s
theorem Ah.mono {P : Program} {w : World} {K : PySem.W.Frag} {mg : Str → Option Value} {base : Heap} {CX : CXT} {j k : Nat} {f : Addr} {fd : FuncData} {ps : List Str} {sp : Sp} (F : Ah P w K mg base CX j f fd ps sp) (h : j ≤ k) :
  Ah P w K mg base CX k f fd ps sp := ⟨F.len, fun A outer s H args us vs Q E hr => F.run A outer s H args us vs Q E (hr.mono h)⟩
theorem PZ.make {P : Program} {w : World} {K : PySem.W.Frag} {mg : Str → Option Value} {base : Heap} {A : Around} {outer : List Env} {s : Shared} {H : Hp} (e : PZ P w K mg base A outer s H) (C : Addr) (us : List Value) (kw : List (Str × Value)) :
  PZ P w K mg base (A.under (.builtin "type.__call__" ⟨.ref C :: us, kw⟩)) outer s H := ⟨by first | exact e.frames | (simpa [Around.under, Code.envs, Code.isFrame, pushEnvs] using e.frames), e.mod, e.bs, e.bsz, e.funs, e.frf, e.hok, e.bare⟩
section
variable {X : Cx} {pins : List (Addr × Obj)} {σ : St} {H : Hp} {s s' : Shared}
theorem Inv.env0 (I : Inv X pins σ H s) : PZ X.prog X.w X.K X.mg X.base X.A X.stack s H :=
 ⟨I.ok.frames, I.ok.mod, I.bs, Nat.le_trans I.ok.bsz I.sz, I.stack, I.stkFree, I.hok, I.bare⟩
theorem Inv.after {Q : VK} {u : Value} (I : Inv X pins σ H s) (h : CE X.stack X.prog X.w H s Q u s') : EP X pins σ Q u s' := by
 obtain ⟨v, H', os, bare, un, hok, r, q⟩ := h
 obtain ⟨hh, g, d, t, os'⟩ := s'
 obtain rfl : os' = s.os := os
 exact ⟨v, H', I.call (h' := hh) (g' := g) (d' := d) (t' := t) (ch := []) un hok bare (fun b z => absurd z (by simp)), r, q⟩
end
def Fe (sp : Sp) (dvs : List V) (E : XK) (t : TA) : TE := fun σ H Q => t σ H fun vs H1 => sp (vs ++ dvs) H1 Q E
def Fb (C : Addr) (m : Str) (sp : Sp) (dvs : List V) (E : XK) (ta : TE) (t : TA) : TE := fun σ H Q => ta σ H fun x H1 => ∃ a dx fs, x = .ref a ∧ H1 a = some (.ins C dx fs) ∧ fs.lookup m = none ∧
 t σ H1 fun vs H2 => sp (x :: (vs ++ dvs)) H2 Q E
def FW (C : Addr) (sp : Sp) (dvs : List V) (E : XK) (t : TA) : TE := fun σ H Q => t σ H fun vs H1 => ∀ x dx, H1 x = none → H1 dx = none → dx ≠ x →
 sp (.ref x :: (vs ++ dvs)) (upd (upd H1 dx (.own x)) x (.ins C dx [])) (fun v H2 => v = .non ∧ Q (.ref x) H2) E
def Binds (K : PySem.W.Frag) (fd : FuncData) (ps : List Str) (ds : List Value) : Prop :=
 ∀ (s : Shared) (us : List Value), K.In s.heap → (us ++ ds).length = ps.length → BindsTo s fd ⟨us, []⟩ (ps.zip (us ++ ds))
theorem Binds.all {K : PySem.W.Frag} {fd : FuncData} {ps : List Str} (h : ∀ us : List Value, us.length = ps.length → bindArgs fd ⟨us, []⟩ = pure (ps.zip us)) : Binds K fd ps [] := fun s us _ hl => by
 rw [List.append_nil] at hl ⊢
 exact .of_eq (h us hl)
def Dv (CX : CXT) (X : Cx) (E : XK) : Prop := ∀ (pins : List (Addr × Obj)) (σ : St) (H : Hp) (s : Shared) (e : Value) (s' : Shared), Inv X pins σ H s → CX X.stack H s E e s' → X.xe e s'
section
variable {X : Cx} {CX : CXT} {k : Nat} {f C : Addr} {fd : FuncData} {ps : List Str} {sp : Sp} {dvs : List V} {ds : List Value} {E : XK} {x m : Str} {p pos apos : Pos} {e o : Expr} {es : List Expr} {ta : TE} {t : TA}
theorem Oz {pins : List (Addr × Obj)} {σ : St} {H : Hp} {s : Shared} {Q : VK} {us : List Value} {vs : List V} (F : Ah X.prog X.w X.K X.mg X.base CX k f fd ps sp) (hr : Bz k X.A) (hb : Binds X.K fd ps ds) (hd : Ag dvs ds) (hx : Dv CX X E)
  (I : Inv X pins σ H s) (r : Ag vs us) (h : sp (vs ++ dvs) H Q E) : wpAny (model X.prog X.w) X.A (call (.ref f) us) (EP X pins σ Q) X.xe s := by
 have r2 : Ag (vs ++ dvs) (us ++ ds) := r.append hd
 have hl : (us ++ ds).length = ps.length := by rw [← r2.length]; exact F.len _ _ _ _ h
 refine wpAny_call (codeAny_mono (F.run X.A X.stack s H ⟨us, []⟩ (us ++ ds) (vs ++ dvs) Q E hr I.env0 (hb s us I.kIn hl) r2 h) fun r s' hq => ?_)
 cases r with
 | error e => exact hx pins σ H s e s' I hq
 | ok fl =>
  cases fl with
  | ret u => exact I.after hq
  | next => exact False.elim hq
  | brk => exact False.elim hq
  | cont => exact False.elim hq
theorem Se (F : Ah X.prog X.w X.K X.mg X.base CX k f fd ps sp) (hr : Bz k X.A) (hg : Gl X x) (hm : X.mg x = some (.ref f)) (hk : PySem.W.keepIn X.K (.ref f) = true) (hb : Binds X.K fd ps ds) (hd : Ag dvs ds) (hx : Dv CX X E)
  (ha : PA X (e :: es) t) (hdb : (x == ("__debug__" : Str)) = false := by decide) (he : starEach (e :: es) X.env = (false, eval e X.env) :: starEach es X.env := by rfl) (hpl : (backTo pos (starEach es X.env)).any (·.1) = false := by rfl) :
  PE X (.Call (.Name x p) (e :: es) [] pos) (Fe sp dvs E t) := by
 intro pins s σ H Q I h
 refine wpAny_Call_Name_kw (KW I hg hm ?_ hdb)
 refine PySem.W.callWith_K (h₀ := X.base) I.ok.mod.kin hk (thn (ha pos pins s σ H _ I h) fun us s1 ⟨vs, H1, I1, r, q⟩ => ⟨I1.kIn, ?_⟩) he hpl
 exact Oz F hr hb hd hx I1 r q
theorem Bs {pl : Sem Bool} (he : PE X o ta) (c : Cls X.K C) (hm : TB X.K C m f) (F : Ah X.prog X.w X.K X.mg X.base CX k f fd ps sp) (hr : Bz k X.A) (hb : Binds X.K fd ps ds) (hd : Ag dvs ds) (hx : Dv CX X E) (ha : PA X (e :: es) t)
  (hst : starEach (e :: es) X.env = (false, eval e X.env) :: starEach es X.env := by rfl) (hpl : (backTo pos (starEach es X.env)).any (·.1) = false := by rfl)
  (ht : eval (.Call (.Attribute o m apos) (e :: es) [] pos) X.env = (do
   let ov ← eval o X.env
   standAt apos.atName
   let (f, first) ← holding [ov] (getMethod ov m pl)
   callWith pos f first (backTo pos (starEach (e :: es) X.env)) (backToKw pos (keywordEach [] X.env))) := by rfl) :
  PE X (.Call (.Attribute o m apos) (e :: es) [] pos) (Fb C m sp dvs E ta t) := by
 intro pins s σ H Q I h
 refine PySem.W.methodCall_KW (pl := pl) (thn (he pins s σ H _ I h) fun u s1 ⟨x, H1, I1, rx, a, dx, fs, ex, ea, l, q⟩ => ?_) ht
 subst ex
 obtain rfl : u = Value.ref a := rx
 refine Ky I1 ea c hm l ?_
 refine PySem.W.callWith_K (first := [.ref a]) (h₀ := X.base) I.ok.mod.kin hm.kp (thn (ha pos pins s1 σ H1 _ I1 q) fun us s2 ⟨vs, H2, I2, r, q2⟩ => ⟨I2.kIn, ?_⟩) hst hpl
 exact Oz (us := .ref a :: us) (vs := .ref a :: vs) F hr hb hd hx I2 (.cons rfl r) q2
theorem Ip {pl : Sem Bool} (he : PE X o ta) (c : Cls X.K C) (hm : TB X.K C m f) (F : Ah X.prog X.w X.K X.mg X.base CX k f fd ps sp) (hr : Bz k X.A) (hb : Binds X.K fd ps ds) (hd : Ag dvs ds) (hx : Dv CX X E)
  (ht : eval (.Call (.Attribute o m apos) [] [] pos) X.env = (do
   let ov ← eval o X.env
   standAt apos.atName
   let (f, first) ← holding [ov] (getMethod ov m pl)
   callWith pos f first (backTo pos (starEach [] X.env)) (backToKw pos (keywordEach [] X.env))) := by rfl) :
  PE X (.Call (.Attribute o m apos) [] [] pos) (Fb C m sp dvs E ta KQ) := by
 intro pins s σ H Q I h
 refine PySem.W.methodCall_KW (pl := pl) (thn (he pins s σ H _ I h) fun u s1 ⟨x, H1, I1, rx, a, dx, fs, ex, ea, l, q⟩ => ?_) ht
 subst ex
 obtain rfl : u = Value.ref a := rx
 refine Ky I1 ea c hm l ?_
 exact PySem.W.callWith_K0 (first := [.ref a]) I1.kIn hm.kp (Oz (us := [.ref a]) (vs := [.ref a]) F hr hb hd hx I1 (.cons rfl .nil) q)
structure Mk (K : PySem.W.Frag) (C f : Addr) : Prop where
 makes : PySem.W.makesIn K C = true
 init : PySem.W.findIn K (.ref C) "__init__" = some (some (.ref f))
 fn : PySem.W.isFn K (.ref f) = true
 kp : PySem.W.keepIn K (.ref C) = true
theorem RM {pins : List (Addr × Obj)} {σ : St} {H : Hp} {s : Shared} {Q : VK} {us : List Value} {vs : List V} (M : Mk X.K C f) (F : Ah X.prog X.w X.K X.mg X.base CX k f fd ps sp) (hr : Bz (k + 1) X.A) (hb : Binds X.K fd ps ds) (hd : Ag dvs ds)
  (hx : Dv CX X E) (I : Inv X pins σ H s) (r : Ag vs us)
  (h : ∀ x dx, H x = none → H dx = none → dx ≠ x → sp (.ref x :: (vs ++ dvs)) (upd (upd H dx (.own x)) x (.ins C dx [])) (fun v H2 => v = .non ∧ Q (.ref x) H2) E) :
  wpAny (model X.prog X.w) X.A (call (.ref C) us) (EP X pins σ Q) X.xe s := by
 have hq := h (s.heap.objs.size + 1) s.heap.objs.size (I.hok.fresh (Nat.le_succ _)) (I.hok.fresh (Nat.le_refl _)) (Nat.ne_of_lt (Nat.lt_succ_self _))
 have I2 := Inv.made (C := C) I
 have r2 : Ag (V.ref (s.heap.objs.size + 1) :: (vs ++ dvs)) (Value.ref (s.heap.objs.size + 1) :: (us ++ ds)) := .cons rfl (r.append hd)
 have hl : (Value.ref (s.heap.objs.size + 1) :: us ++ ds).length = ps.length := by
  have e := r2.length
  rw [F.len _ _ _ _ hq] at e
  exact e.symm
 refine wpAny_call (RK (f := f) I.kIn M.makes M.init (beq_iff_eq.mp M.fn) (codeAny_mono (F.run _ X.stack _ _ ⟨Value.ref (s.heap.objs.size + 1) :: us, []⟩ (Value.ref (s.heap.objs.size + 1) :: (us ++ ds)) _ _ E (hr.make C us [])
  (I2.env0.make C us []) (hb _ (Value.ref (s.heap.objs.size + 1) :: us) I2.kIn hl) r2 hq) fun r s' hq' => ?_))
 cases r with
 | error e => exact hx pins σ _ _ e s' I2 hq'
 | ok fl =>
  cases fl with
  | ret u =>
   obtain ⟨v, H', I3, rv, ev, q3⟩ := I2.after hq'
   subst ev
   exact ⟨rv, ⟨V.ref (s.heap.objs.size + 1), H', I3, rfl, q3⟩⟩
  | next => exact False.elim hq'
  | brk => exact False.elim hq'
  | cont => exact False.elim hq'
theorem Rp (M : Mk X.K C f) (F : Ah X.prog X.w X.K X.mg X.base CX k f fd ps sp) (hr : Bz (k + 1) X.A) (hg : Gl X x) (hm : X.mg x = some (.ref C)) (hb : Binds X.K fd ps ds) (hd : Ag dvs ds) (hx : Dv CX X E)
  (hdb : (x == ("__debug__" : Str)) = false := by decide) : PE X (.Call (.Name x p) [] [] pos) (FW C sp dvs E KQ) := by
 intro pins s σ H Q I h
 refine wpAny_Call_Name_kw (KW I hg hm ?_ hdb)
 exact PySem.W.callWith_K0 I.kIn M.kp (RM (us := []) M F hr hb hd hx I .nil h)
end
section
variable {X : Cx} {CX : CXT} {k : Nat} {f C : Addr} {fd : FuncData} {ps ks : List Str} {sp : Sp} {E : XK} {x m : Str} {p pos apos kpos : Pos} {e o : Expr} {es : List Expr} {kws : List Keyword} {te ta : TE} {t tk : TA} {nm : Option Str}
variable {g : List Value → List Value → List Value} {gV : List V → List V → List V}
end
structure AN (N P : List Str) (sc : Scope) : Prop where
 kind : sc.kind = .function
 co : sc.isCoroutine = false
 gen : sc.isGenerator = false
 nd : N.Nodup
 pre : N.take P.length = P
 par : ∀ x ∈ P, sc.names.lookup x = some .local ∨ sc.names.lookup x = some .cell
 nofree : ∀ y ∈ sc.names, y.2 ≠ .free
theorem MQ {kindOf : Str → Option NameKind} {x : Str} : ∀ {binds : List (Str × Value)} {m : Str → Option Value}, (∀ v, (x, v) ∉ binds) → bindL kindOf binds m x = m x
 | [], _, _ => rfl
 | (n, v) :: r, m, h => by
  unfold bindL
  rw [MQ fun w hw => h w (List.mem_cons_of_mem _ hw)]
  split
  ·have : x ≠ n := by rintro rfl; exact h v List.mem_cons_self
   simp [this]
  ·rfl
theorem Me {kindOf : Str → Option NameKind} {x : Str} : ∀ {binds : List (Str × Value)} {m : Str → Option Value}, (∀ v, (x, v) ∉ binds) → bindC kindOf binds m x = m x
 | [], _, _ => rfl
 | (n, v) :: r, m, h => by
  unfold bindC
  rw [Me fun w hw => h w (List.mem_cons_of_mem _ hw)]
  split
  ·rfl
  ·have : x ≠ n := by rintro rfl; exact h v List.mem_cons_self
   simp [this]
theorem MY {kindOf : Str → Option NameKind} {x : Str} {v : Value} : ∀ {P : List Str} {vs : List Value} {i : Nat} {m : Str → Option Value}, P.Nodup → P[i]? = some x → vs[i]? = some v → kindOf x = some .local →
  bindL kindOf (P.zip vs) m x = some v
 | [], _, _, _, _, h, _, _ => by simp at h
 | _ :: _, [], _, _, _, _, h, _ => by simp at h
 | p :: P, w :: vs, 0, m, nd, h1, h2, hk => by
  simp at h1 h2; subst h1; subst h2
  show bindL kindOf ((p, w) :: P.zip vs) m p = _
  unfold bindL
  rw [MQ fun v hv => (List.nodup_cons.mp nd).1 (List.of_mem_zip hv).1, if_pos hk]
  simp
 | p :: P, w :: vs, i + 1, m, nd, h1, h2, hk => by
  show bindL kindOf ((p, w) :: P.zip vs) m x = _
  unfold bindL
  exact MY (i := i) (List.nodup_cons.mp nd).2 (by simpa using h1) (by simpa using h2) hk
theorem MR {kindOf : Str → Option NameKind} {x : Str} {v : Value} : ∀ {P : List Str} {vs : List Value} {i : Nat} {m : Str → Option Value}, P.Nodup → P[i]? = some x → vs[i]? = some v → kindOf x ≠ some .local →
  bindC kindOf (P.zip vs) m x = some v
 | [], _, _, _, _, h, _, _ => by simp at h
 | _ :: _, [], _, _, _, _, h, _ => by simp at h
 | p :: P, w :: vs, 0, m, nd, h1, h2, hk => by
  simp at h1 h2; subst h1; subst h2
  show bindC kindOf ((p, w) :: P.zip vs) m p = _
  unfold bindC
  rw [Me fun v hv => (List.nodup_cons.mp nd).1 (List.of_mem_zip hv).1, if_neg hk]
  simp
 | p :: P, w :: vs, i + 1, m, nd, h1, h2, hk => by
  show bindC kindOf ((p, w) :: P.zip vs) m x = _
  unfold bindC
  exact MR (i := i) (List.nodup_cons.mp nd).2 (by simpa using h1) (by simpa using h2) hk
def start (N : List Str) (vs : List V) : St := vs.map some ++ List.replicate (N.length - vs.length) none
def Ez (CX : CXT) (P : Program) (w : World) (K : PySem.W.Frag) (mg : Str → Option Value) (base : Heap) (N : List Str) (qual : Str) (scope : Scope) (f : Addr) (cd : Value) (A : Around) (outer : List Env) (s : Shared) (H : Hp) (E : XK) : Cx where
 prog := P
 w := w
 K := K
 mg := mg
 base := base
 A := A.deeper (envOfC qual scope s.heap.objs.size f cd)
 N := N
 s₀ := s
 H₀ := H
 env := envOfC qual scope s.heap.objs.size f cd
 outer := outer
 stack := envOfC qual scope s.heap.objs.size f cd :: outer
 ex := []
 calm := true
 fn := fun _ => true
 pn := []
 xe := fun e s' => wpAny (model P w) (A.deeper (envOfC qual scope s.heap.objs.size f cd)) (leaving (envOfC qual scope s.heap.objs.size f cd) e) (fun _ s'' => CX outer H s E e s'') (fun e' s'' => CX outer H s E e' s'') s'
theorem OF {sc : Scope} {n : Nat} {x : Str} (h : sc.names.lookup x = some .cell) : ∃ c, (cellsFrom n sc.names []).lookup x = some c := by
 have q := PySem.W.cellsFrom_some sc.names n [] (.inl h)
 exact Option.isSome_iff_exists.mp q
theorem QP {CX : CXT} {P : Program} {w : World} {K : PySem.W.Frag} {mg : Str → Option Value} {base : Heap} {N ps : List Str} {qual : Str} {scope : Scope} {f : Addr} {cd : Value} {A : Around} {outer : List Env} {s s1 : Shared} {H : Hp} {E : XK} {us : List Value} {vs : List V}
  (S : AN N ps scope) (hd : A.handled = none) (e0 : PZ P w K mg base A outer s H) (hl : vs.length = ps.length) (r : Ag vs us)
  (x : InCallC s s.heap.objs.size (bindL (envOfC qual scope s.heap.objs.size f cd).kindOf (ps.zip us) fun _ => none) (cellsFrom (s.heap.objs.size + 1) scope.names []) (bindC (envOfC qual scope s.heap.objs.size f cd).kindOf (ps.zip us) fun _ => none) s1) :
  Inv (Ez CX P w K mg base N qual scope f cd A outer s H E) [] (start N vs) H s1 := by
 have hpl : ps.length ≤ N.length := by have := congrArg List.length S.pre; rw [List.length_take] at this; omega
 obtain ⟨h1, tk, rfl, hk⟩ := x.done
 have noA : ∀ b : Addr, b ∉ (Ez CX P w K mg base N qual scope f cd A outer s H E).ex := fun b z => absurd (show b ∈ ([] : List Addr) from z) (by simp)
 refine ⟨⟨e0.mod, S.kind, rfl, rfl, Nat.le_refl _, fun y z c h1 h2 => ?_, fun y hy => ?_, fun y c _ h => ?_, fun _ => hd, Around.frames_deeper e0.frames, .inr ⟨rfl, rfl⟩, fun b z => absurd z (noA b), e0.bs, e0.bsz, fun b _ _ => noA b, fun b z => absurd z (noA b), e0.funs, e0.frf⟩,
  rfl, e0.bare, Un.kept hk, ⟨_, x.toInCall.ns, fun i y v h1 h2 h3 => ?_⟩, fun y c h => ⟨_, x.cell y c h⟩, e0.hok.fresh (Nat.le_refl _), fun y c h => ?_, fun p hp => absurd (show p ∈ ([] : List (Addr × Obj)) from hp) (by simp), e0.hok.kept hk, ?_⟩
 ·exact name_of_addr x.apart (PySem.mem_of_lookup h1) (PySem.mem_of_lookup h2)
 ·have hy : scope.names.lookup y = some .cell ∨ scope.names.lookup y = some .free := hy
  rcases hy with hy | hy
  ·exact OF hy
  ·exact absurd rfl (S.nofree _ (PySem.mem_of_lookup hy))
 ·exact Nat.le_of_lt (x.above y c (PySem.mem_of_lookup h))
 ·have hi : i < vs.length := by
   unfold start at h2
   by_cases hi : i < vs.length
   ·exact hi
   ·rw [List.getElem?_append_right (by simpa using hi)] at h2
    rw [List.getElem?_replicate] at h2
    split at h2 <;> cases h2
  have ha : vs[i]? = some v := by
   unfold start at h2
   rw [List.getElem?_append_left (by simpa using hi), List.getElem?_map] at h2
   cases e : vs[i]? with
   | none => rw [e] at h2; cases h2
   | some a => rw [e] at h2; cases h2; rfl
  obtain ⟨u, hu, rv⟩ := r.get ha
  have hp : ps[i]? = some y := by
   rw [← S.pre, List.getElem?_take_of_lt (by omega)]; exact h1
  have ndP : ps.Nodup := by rw [← S.pre]; exact S.nd.sublist (List.take_sublist _ _)
  refine ⟨u, rv, ?_⟩
  rcases S.par y (List.mem_of_getElem? hp) with k | k
  ·exact .inl ⟨k, MY ndP hp hu k⟩
  ·obtain ⟨c, e⟩ := OF (n := s.heap.objs.size + 1) k
   refine .inr ⟨.inl k, c, e, ?_⟩
   have q := x.cell y c e
   rw [MR ndP hp hu (by show scope.names.lookup y ≠ _; rw [k]; decide)] at q
   exact q
 ·exact e0.hok.fresh (Nat.le_of_lt (x.above y c (PySem.mem_of_lookup h)))
 ·unfold start
  show _ = N.length
  rw [List.length_append, List.length_map, List.length_replicate]
  omega
theorem Ri {CX : CXT} {P : Program} {w : World} {K : PySem.W.Frag} {mg : Str → Option Value} {base : Heap} {k : Nat} {f : Addr} {name qual : Str} {params : Arguments} {body : List Stmt} {scope : Scope} {dV kV doc pm cdv ct oc : Value} {an od : Option Addr}
  {osl : Array (Option Value)} {N ps : List Str} {sp : Sp} (lk : K.lookup f = some ⟨oc, od, .func (PySem.W.fnOf name qual params body scope dV kV doc pm an cdv ct), osl⟩) (hcd : PySem.W.codeIn K cdv qual = true) (S : AN N ps scope)
  (len : ∀ vs H Q E, sp vs H Q E → vs.length = ps.length)
  (hbody : ∀ (A : Around) (outer : List Env) (s : Shared) (H : Hp) (vs : List V) (Q : VK) (E : XK), Bz k (A.deeper (envOfC qual scope s.heap.objs.size f cdv)) → sp vs H Q E →
   ∃ t, PSs (Ez CX P w K mg base N qual scope f cdv A outer s H E) body t ∧ t { nx := fun _ H' => Q .non H', rt := Q } (start N vs) H) :
  Ah P w K mg base CX (k + 1) f (PySem.W.fnOf name qual params body scope dV kV doc pm an cdv ct) ps sp := by
 refine ⟨len, fun A outer s H args us vs Q E hr e0 hb r hsp => ?_⟩
 have hl := len _ _ _ _ hsp
 have KX : K.In s.heap := e0.mod.kin.keeps fun b o e => (e0.bs b o e).1
 have lim : s.heap.NoLimit := e0.mod.nolimit.keeps fun b o e => (e0.bs b o e).1
 have hkind : ∀ y ∈ ps.zip us, scope.names.lookup y.1 = some .local ∨ (scope.names.lookup y.1 = some .cell ∧ ((cellsFrom (s.heap.objs.size + 1) scope.names []).lookup y.1).isSome = true) := fun ⟨n, v⟩ hy => by
  rcases S.par n (List.of_mem_zip hy).1 with q | q
  ·exact .inl q
  ·exact .inr ⟨q, PySem.W.cellsFrom_some _ _ _ (.inl q)⟩
 refine codeAny_call_function hr.depth (KX _ _ lk) rfl S.co S.gen rfl (PySem.W.codeRec_of KX hcd) (hb _ _ _ _ ?_)
 refine wpAny_newFunctionEnv_cells S.kind hkind fun env he s1 x => ?_
 subst he
 refine ⟨lim.keeps x.toInCall.keep, codeAny_func ?_⟩
 obtain ⟨t, ht, hq⟩ := hbody A outer s H vs Q E (hr.deeper _) hsp
 have I : Inv (Ez CX P w K mg base N qual scope f cdv A outer s H E) [] (start N vs) H s1 := QP S hr.hd e0 hl r x
 refine wpAny_mono (ht [] s1 (start N vs) H _ I hq) (fun fl s' hs => ?_) fun e s' hs => hs
 have fin : ∀ {σ' : St} {H' : Hp} {v : V} {u : Value}, Inv (Ez CX P w K mg base N qual scope f cdv A outer s H E) [] σ' H' s' → RelV v u → Q v H' → CE outer P w H s Q u s' :=
  fun {σ' H' v u} J rv q => ⟨v, H', J.os, J.bare, J.base, J.hok, rv, q⟩
 cases fl with
 | ret u =>
  obtain ⟨v, σ', H', J, rv, q⟩ := hs
  exact fin J rv q
 | next =>
  obtain ⟨σ', H', J, q⟩ := hs
  exact fin (v := V.non) (u := Value.none) J rfl q
 | brk =>
  obtain ⟨_, _, _, q⟩ := hs
  exact False.elim q
 | cont =>
  obtain ⟨_, _, _, q⟩ := hs
  exact False.elim q
end L2
namespace L2
open PySem PySem.Spec PyProof.Rows
section
variable {X : Cx} {x : Str} {p pos : Pos} {e : Expr} {es : List Expr} {t : TA} {id T : String} {r : List V → Hp → VK → Prop}
def tCB (r : List V → Hp → VK → Prop) (t : TA) : TE := fun σ H Q => t σ H fun vs H1 => r vs H1 Q
theorem AJ (hc : CB X (.builtin id) r) (hg : Gl X x) (hm : X.mg x = none) (hv : bootBuiltins x = some (.builtin id)) (ha : PA X (e :: es) t) (hn : x ≠ "__name__" := by decide) (hdb : (x == ("__debug__" : Str)) = false := by decide)
  (he : starEach (e :: es) X.env = (false, eval e X.env) :: starEach es X.env := by rfl) (hpl : (backTo pos (starEach es X.env)).any (·.1) = false := by rfl) : PE X (.Call (.Name x p) (e :: es) [] pos) (tCB r t) := by
 intro pins s σ H Q I h
 refine wpAny_Call_Name_kw (HQ I hg hm hv ?_ hn hdb)
 exact PyProof.Rows.callWith_builtin1 (thn (ha pos pins s σ H _ I h) fun us s1 ⟨vs, H1, I1, r1, q1⟩ => hc pins s1 σ H1 vs us Q I1 r1 q1) he hpl
theorem Bh (hc : CB X (.type T) r) (hg : Gl X x) (hm : X.mg x = none) (hv : bootBuiltins x = some (.type T)) (ha : PA X (e :: es) t) (hn : x ≠ "__name__" := by decide) (hdb : (x == ("__debug__" : Str)) = false := by decide)
  (he : starEach (e :: es) X.env = (false, eval e X.env) :: starEach es X.env := by rfl) (hpl : (backTo pos (starEach es X.env)).any (·.1) = false := by rfl) : PE X (.Call (.Name x p) (e :: es) [] pos) (tCB r t) := by
 intro pins s σ H Q I h
 refine wpAny_Call_Name_kw (HQ I hg hm hv ?_ hn hdb)
 exact PyProof.Rows.callWith_type1 (thn (ha pos pins s σ H _ I h) fun us s1 ⟨vs, H1, I1, r1, q1⟩ => hc pins s1 σ H1 vs us Q I1 r1 q1) he hpl
end
end L2
namespace HT
open PySem PyProof.Rows
def lexLt : List Int → List Int → Bool
 | [], [] => false
 | [], _ :: _ => true
 | _ :: _, [] => false
 | x :: xs, y :: ys => if x = y then lexLt xs ys else decide (x < y)
theorem lexLt_cons (x y : Int) (xs ys : List Int) : lexLt (x :: xs) (y :: ys) = if x = y then lexLt xs ys else decide (x < y) := rfl
section
open PySem.SeqAt
open PySem.AutoSeq1 (wpAny_loadPart')
open PySem.MeetsSeq PySem.MeetsSeq2 PySem.MeetsSeq3
end
section
variable {prog : Program} {w : World} {A : Around} {E : Value → Shared → Prop} {s : Shared}
def sIx (n d : Nat) : Option Int → Nat
 | none => d
 | some v => if v < 0 then (v + (n : Int)).toNat else min v.toNat n
theorem sIx_none (n d : Nat) : sIx n d none = d := rfl
theorem sIx_nat (n d k : Nat) : sIx n d (some (k : Int)) = min k n := by
 show (if (k : Int) < 0 then ((k : Int) + (n : Int)).toNat else min (k : Int).toNat n) = min k n
 rw [if_neg (by omega), Int.toNat_natCast]
end
end HT
namespace L2
open PySem PySem.Spec PyProof.Rows
abbrev TO := St → Hp → (Option Int → Hp → Prop) → Prop
def PO (X : Cx) (e : Option Expr) (t : TO) : Prop :=
 ∀ (pins : List (Addr × Obj)) (s : Shared) (σ : St) (H : Hp) (Q : Option Int → Hp → Prop), Inv X pins σ H s → t σ H Q →
  wpAny (model X.prog X.w) X.A (evalPart e X.env) (fun u s' => ∃ o H', Inv X pins σ H' s' ∧ IsPart u o ∧ Q o H') X.xe s
def CV : TO := fun _ H Q => Q none H
def Gh (t : TE) : TO := fun σ H Q => t σ H fun x H1 => ∃ i, x = .int i ∧ Q (some i) H1
theorem intsAre_of {ns : List Int} : ∀ {us : List Value}, Ag (ns.map V.int) us → IntsAre us ns := by
 induction ns with
 | nil => intro us r; rw [List.map_nil] at r; cases r; exact .nil
 | cons n ns ih =>
  intro us r
  rw [List.map_cons] at r
  cases r with
  | cons r1 r2 =>
   obtain ⟨t, e⟩ := r1
   subst e
   exact .cons n t (ih r2)
section
variable {X : Cx} {e : Expr} {te : TE} {lo hi : Option Expr} {tl th : TO} {pos p2 : Pos}
theorem Nl : PO X none CV := by
 intro pins s σ H Q I h
 rw [evalPart_none]
 exact wpAny_pure ⟨none, H, I, .none, h⟩
theorem Nk (h : PE X e te) : PO X (some e) (Gh te) := by
 intro pins s σ H Q I hw
 rw [evalPart_some]
 refine thn (h pins s σ H _ I hw) fun u s1 ⟨x, H1, I1, r1, q1⟩ => ?_
 obtain ⟨i, rfl, q⟩ := q1
 obtain ⟨t, rfl⟩ := r1
 exact ⟨some i, H1, I1, .int i t, q⟩
def SlR (X : Cx) (r : V → Option Int → Option Int → Hp → VK → Prop) : Prop :=
 ∀ (pins : List (Addr × Obj)) (s : Shared) (σ : St) (H : Hp) (x : V) (v vl vu : Value) (lo hi : Option Int) (sl : Addr) (Q : VK), Inv X pins σ H s → RelV x v → s.heap.IsSliceOf sl vl vu .none → IsPart vl lo → IsPart vu hi → r x lo hi H Q →
  ∃ T id, typeLookup (.type T) "__getitem__" = pure (some (.builtin id)) ∧ s.TypeIs v T ∧ wpAny (model X.prog X.w) X.A (getItem v (.ref sl)) (EP X pins σ Q) X.xe s
def tSl (r : V → Option Int → Option Int → Hp → VK → Prop) (te : TE) (tl th : TO) : TE := fun σ H Q => te σ H fun x H1 => tl σ H1 fun l H2 => th σ H2 fun u H3 => r x l u H3 Q
theorem LP {r : V → Option Int → Option Int → Hp → VK → Prop} (hr : SlR X r) (he : PE X e te) (hl : PO X lo tl) (hu : PO X hi th) : PE X (.Subscript e (.Slice lo hi none p2) pos) (tSl r te tl th) := by
 intro pins s σ H Q I h
 refine Subscript_ (thn (he pins s σ H _ I h) fun v s1 ⟨x, H1, I1, r1, q1⟩ => ?_)
 refine wpAny_Slice (thn (hl pins s1 σ H1 _ I1 q1) fun vl s2 ⟨l, H2, I2, pl, q2⟩ => thn (hu pins s2 σ H2 _ I2 q2) fun vu s3 ⟨u, H3, I3, pu, q3⟩ => ?_)
 rw [evalPart_none]
 refine wpAny_pure ?_
 have I4 : Inv X pins σ H3 { s3 with heap := s3.heap.push { cls := .type "slice", data := .fields #[vl, vu, .none] } } := I3.kept (t' := s3.toks) fun b ob q => Heap.get?_push_of_some _ q
 obtain ⟨T, id, hT, ht, hg⟩ := hr pins { s3 with heap := s3.heap.push { cls := .type "slice", data := .fields #[vl, vu, .none] } } σ H3 x v vl vu l u s3.heap.objs.size Q I4 r1 (Heap.IsSliceOf.new ..) pl pu q3
 show wpAny (model X.prog X.w) X.A (subscriptTail e (.Slice lo hi none p2) v (.ref s3.heap.objs.size)) (EP X pins σ Q) X.xe { s3 with heap := s3.heap.push { cls := .type "slice", data := .fields #[vl, vu, .none] } }
 exact tail_any (ops := [.ref s3.heap.objs.size, v]) ht hT hg (by with_unfolding_all rfl)
def Nb (xs : List V) (lo hi : Option Int) : List V := (xs.drop (HT.sIx xs.length 0 lo)).take (HT.sIx xs.length xs.length hi - HT.sIx xs.length 0 lo)
theorem Ny (xs : List V) (lo hi : Option Int) : (Nb xs lo hi).length ≤ xs.length := by
 unfold Nb
 rw [List.length_take, List.length_drop]
 omega
end
end L2
namespace L2
open PySem PySem.Spec PyProof.Rows
def ixN (n : Nat) (i : Int) : Option Nat := if 0 ≤ i then (if i < n then some i.toNat else none) else if -(n : Int) ≤ i then some (i + n).toNat else none
def atI {α : Type} (xs : List α) (i : Int) : Option α := (ixN xs.length i).bind fun j => xs[j]?
theorem Pn {n : Nat} {i : Int} {j : Nat} (h : ixN n i = some j) : seqIndex? i n = some j ∧ j < n ∧ -(n : Int) ≤ i ∧ i < n := by
 unfold ixN at h
 by_cases h0 : 0 ≤ i
 ·rw [if_pos h0] at h
  by_cases h1 : i < n
  ·rw [if_pos h1] at h
   have e : i.toNat = j := Option.some.inj h
   exact ⟨by rw [seqIndex_of h0 h1, e], by omega, by omega, h1⟩
  ·rw [if_neg h1] at h; cases h
 ·rw [if_neg h0] at h
  by_cases h1 : -(n : Int) ≤ i
  ·rw [if_pos h1] at h
   have e : (i + n).toNat = j := Option.some.inj h
   exact ⟨by rw [seqIndex_neg (by omega) h1, e], by omega, h1, by omega⟩
  ·rw [if_neg h1] at h; cases h
theorem P6 {α : Type} {xs : List α} {i : Int} {v : α} (h : atI xs i = some v) : ∃ j, seqIndex? i xs.length = some j ∧ xs[j]? = some v ∧ j < xs.length ∧ -(xs.length : Int) ≤ i ∧ i < xs.length := by
 unfold atI at h
 cases e : ixN xs.length i with
 | none => rw [e] at h; cases h
 | some j =>
  rw [e] at h
  obtain ⟨h1, h2, h3, h4⟩ := Pn e
  exact ⟨j, h1, h, h2, h3, h4⟩
theorem Db {α : Type} {xs : List α} {j : Nat} {v : α} (h : xs[j]? = some v) : atI xs (j : Int) = some v := by
 have hj : j < xs.length := (List.getElem?_eq_some_iff.mp h).1
 have e : ixN xs.length (j : Int) = some j := by
  unfold ixN
  rw [if_pos (by omega), if_pos (by omega)]; simp
 unfold atI; rw [e]; exact h
theorem SB {α : Type} (xs : List α) (v : α) : atI (xs ++ [v]) (-1) = some v := by
 have hl : (xs ++ [v]).length = xs.length + 1 := by simp
 have e : ixN (xs ++ [v]).length (-1) = some xs.length := by
  unfold ixN
  rw [hl, if_neg (by decide), if_pos (by omega)]
  congr 1
  omega
 unfold atI
 rw [e]
 show (xs ++ [v])[xs.length]? = some v
 simp
def Pb (b : Expr) : Prop := ∀ o i, subscripted b false o i = operate [o, i] (getItem o i)
def IxR (X : Cx) (r : R2) : Prop :=
 ∀ (value slice : Expr) (pins : List (Addr × Obj)) (s : Shared) (σ : St) (H : Hp) (x y : V) (v u : Value) (Q : VK), Inv X pins σ H s → RelV x v → RelV y u → r x y H Q →
  subscripted slice false v u = operate [v, u] (getItem v u) → wpAny (model X.prog X.w) X.A (subscriptTail value slice v u) (EP X pins σ Q) X.xe s
def MtR (X : Cx) (id : String) (r : V → List V → Hp → VK → Prop) : Prop :=
 ∀ (pins : List (Addr × Obj)) (s : Shared) (σ : St) (H : Hp) (x : V) (xs : List V) (v : Value) (us : List Value) (Q : VK), Inv X pins σ H s → RelV x v → Ag xs us → r x xs H Q →
  wpAny (model X.prog X.w) X.A (call (.builtin id) (v :: us)) (EP X pins σ Q) X.xe s
section
variable {X : Cx} {a b : Expr} {ta tb : TE} {pos : Pos}
theorem pe_ix {r : R2} (hr : IxR X r) (ha : PE X a ta) (hb : PE X b tb) (hs : Pb b) : PE X (.Subscript a b pos) (tOp r ta tb) := by
 intro pins s σ H Q I h
 exact Subscript_ (VC ha hb I h fun v u s2 x y H2 I2 rx ry q => hr a b pins s2 σ H2 x y v u Q I2 rx ry q (hs _ _))
def Lm (K : PySem.W.Frag) : R2 := fun x y H Q => ∃ p xs i v, x = .ref p ∧ y = .int i ∧ SqL K H p xs ∧ atI xs i = some v ∧ Q v H
def LU (K : PySem.W.Frag) : R2 := fun x y H Q => ∃ p xs i v, x = .ref p ∧ y = .int i ∧ SqT K H p xs ∧ atI xs i = some v ∧ Q v H
theorem AR : IxR X (Lm X.K) := by
 intro value slice pins s σ H x y v u Q I rx ry h hs
 obtain ⟨p, xs, i, z, rfl, rfl, hq, he, q⟩ := h
 cases rx
 obtain ⟨t, rfl⟩ := ry
 obtain ⟨its, r, pl, hz⟩ := I.list hq
 obtain ⟨j, h1, h2, h3, h4, h5⟩ := P6 he
 obtain ⟨w, ew, rw'⟩ := r.get h2
 have hl := r.length
 have hn := Lk
 have fin : EP X pins σ Q w s := ⟨z, H, I, rw', q⟩
 by_cases h0 : 0 ≤ i
 ·have hj : i.toNat = j := by
   rw [seqIndex_of h0 h5] at h1
   exact Option.some.inj h1
  exact item_listR pl.isList h0 (by omega) (by rw [hj]; simpa using ew) fin hs
 ·have hj : (i + (its.toArray.size : Int)).toNat = j := by
   rw [seqIndex_neg (by omega) h4] at h1
   rw [List.size_toArray, ← hl]
   exact Option.some.inj h1
  exact subscriptTail_builtinR (x := w) pl.isList.typeIs slot_list_getitem.lookup
   (wpAny_getItem_list_neg (Q := fun r s' => r = w ∧ EP X pins σ Q r s') pl.isList (by omega) (by rw [List.size_toArray] <;> omega) (by omega) (by rw [hj]; simpa using ew) ⟨rfl, fin⟩) hs
theorem AL : IxR X (LU X.K) := by
 intro value slice pins s σ H x y v u Q I rx ry h hs
 obtain ⟨p, xs, i, z, rfl, rfl, hq, he, q⟩ := h
 cases rx
 obtain ⟨t, rfl⟩ := ry
 obtain ⟨its, r, pl, hz⟩ := I.tuple hq
 obtain ⟨j, h1, h2, h3, h4, h5⟩ := P6 he
 obtain ⟨w, ew, rw'⟩ := r.get h2
 have hl := r.length
 have hn := Lk
 have fin : EP X pins σ Q w s := ⟨z, H, I, rw', q⟩
 exact subscriptTail_builtinR (x := w) pl.typeIs slot_tuple_getitem.lookup
  (getItem_tuple (j := j) (Q := fun r s' => r = w ∧ EP X pins σ Q r s') pl (by omega) (by omega) (by rw [List.size_toArray, ← hl]; exact h1) (by simpa using ew) ⟨rfl, fin⟩) hs
theorem PQ (its : List Value) (n j : Nat) (u : Value) : Obj.mapSeq (·.setIfInBounds j u) { cls := .type "list", data := .seq its.toArray n } = { cls := .type "list", data := .seq (its.set j u).toArray n } := by
 simp [Obj.mapSeq]
theorem Inv.lst {pins : List (Addr × Obj)} {σ : St} {H : Hp} {s : Shared} {p : Addr} {xs : List V} (I : Inv X pins σ H s) (h : H p = some (.lst xs)) :
  ∃ (its : List Value) (n : Nat), Ag xs its ∧ s.heap.get? p = some { cls := .type "list", data := .seq its.toArray n } ∧ xs.length ≤ sizeLine := by
 obtain ⟨z, its, n, r, e⟩ := I.hok p _ h
 exact ⟨its, n, r, e, z⟩
theorem Inv.lstUpd {pins : List (Addr × Obj)} {σ : St} {H : Hp} {s : Shared} {p : Addr} {xs ys : List V} {its its' : List Value} {n n' : Nat} {f : Obj → Obj} (I : Inv X pins σ H s) (h : H p = some (.lst xs))
  (ho : s.heap.get? p = some { cls := .type "list", data := .seq its.toArray n }) (hf : f { cls := .type "list", data := .seq its.toArray n } = { cls := .type "list", data := .seq its'.toArray n' }) (r : Ag ys its') (hz : ys.length ≤ sizeLine) (t : Nat) :
  Inv X pins σ (upd H p (.lst ys)) { s with heap := s.heap.update p f, toks := t } := by
 have e : (s.heap.update p f).get? p = some { cls := .type "list", data := .seq its'.toArray n' } := by
  rw [Heap.get?_update_self f ho (by rw [hf] <;> rfl), hf]
 refine I.write (x := p) (e := p) (by rw [h]; trivial) (.inl rfl) (fun b u hb q => (Heap.get?_update_other _ _ (Ne.symm hb)).trans q) ⟨_, e⟩ ?_
 exact ⟨hz, its', n', r, e⟩
def Gg : V → V → V → Hp → (Hp → Prop) → Prop := fun o i v H Q => ∃ p xs k j, o = .ref p ∧ i = .int k ∧ H p = some (.lst xs) ∧ ixN xs.length k = some j ∧ Q (upd H p (.lst (xs.set j v)))
theorem OT : PSet X Gg := by
 intro pins s σ H o i v ov iv u Q I ro ri rv h
 obtain ⟨p, xs, k, j, rfl, rfl, hp, hj, q⟩ := h
 cases ro
 obtain ⟨t, rfl⟩ := ri
 obtain ⟨its, n, r, ho, hz⟩ := I.lst hp
 obtain ⟨h1, h2, h3, h4⟩ := Pn hj
 have hl := r.length
 have hn := Lk
 have I' : Inv X pins σ (upd H p (.lst (xs.set j v))) { s with heap := s.heap.update p (Obj.mapSeq (·.setIfInBounds j u)) } :=
  I.lstUpd hp ho (PQ its n j u) (r.set rv j) (by rw [List.length_set]; exact hz) s.toks
 by_cases h0 : 0 ≤ k
 ·have hk : k.toNat = j := by
   rw [seqIndex_of h0 h4] at h1
   exact Option.some.inj h1
  exact PySem.W.ki_setAt ho h0 (by omega) (by rw [List.size_toArray, ← hl]; exact h4) (by rw [hk]; exact ⟨_, I', q⟩)
 ·have hk : (k + (its.toArray.size : Int)).toNat = j := by
   rw [seqIndex_neg (by omega) h3] at h1
   rw [List.size_toArray, ← hl]
   exact Option.some.inj h1
  exact PySem.W.ki_setBack ho (by omega) (by rw [List.size_toArray, ← hl]; exact h3) (by omega) (by rw [hk]; exact ⟨_, I', q⟩)
theorem NS (lo hi : Option Int) (n : Nat) : (sliceBounds lo hi none n).1 = ((HT.sIx n 0 lo : Nat) : Int) ∧ (sliceBounds lo hi none n).2.1 = ((HT.sIx n n hi : Nat) : Int) ∧ (sliceBounds lo hi none n).2.2 = 1 := by
 refine ⟨?_, ?_, rfl⟩
 ·cases lo with
  | none => simp [sliceBounds, HT.sIx]
  | some i =>
   simp only [sliceBounds, HT.sIx, Option.getD_none, show (1 : Int) > 0 by decide, if_true]
   by_cases h : i < 0
   ·simp only [h, if_true] <;> omega
   ·simp only [h, if_false] <;> omega
 ·cases hi with
  | none => simp [sliceBounds, HT.sIx]
  | some i =>
   simp only [sliceBounds, HT.sIx, Option.getD_none, show (1 : Int) > 0 by decide, if_true]
   by_cases h : i < 0
   ·simp only [h, if_true] <;> omega
   ·simp only [h, if_false] <;> omega
theorem MC (its : List Value) (lo hi : Option Int) : slicePick its.toArray lo hi none = ((its.drop (HT.sIx its.length 0 lo)).take (HT.sIx its.length its.length hi - HT.sIx its.length 0 lo)).toArray := by
 obtain ⟨h1, h2, h3⟩ := NS lo hi its.toArray.size
 unfold slicePick
 rw [h1, h2, h3]
 simp only [sliceRange_one, pick_run, List.size_toArray] <;> rfl
def rSlL (K : PySem.W.Frag) : V → Option Int → Option Int → Hp → VK → Prop := fun x lo hi H Q => ∃ a xs, x = .ref a ∧ SqL K H a xs ∧ ∀ p, H p = none → Q (.ref p) (upd H p (.lst (Nb xs lo hi)))
theorem Sa : SlR X (rSlL X.K) := by
 intro pins s σ H x v vl vu lo hi sl Q I rx hs pl pu h
 obtain ⟨a, xs, rfl, hx, q⟩ := h
 cases rx
 obtain ⟨its, r, ht, hz⟩ := I.list hx
 have hlen := r.length
 refine ⟨"list", _, slot_list_getitem.lookup, ht.isList.typeIs, ?_⟩
 refine wpAny_getItem_list_slice ht.isList hs pl pu .none (by simp) ?_ (by rw [List.size_toArray] <;> omega)
 rw [MC, ← hlen]
 refine ⟨.ref s.heap.objs.size, _, I.laid (t' := s.toks) (o := .lst (Nb xs lo hi)) (fun b ob q => Heap.get?_push_of_some _ q) (Nat.le_refl _) ?_, rfl, q _ (I.hok.fresh (Nat.le_refl _))⟩
 exact ⟨Nat.le_trans (Ny xs lo hi) hz, _, 0, (r.drop (HT.sIx xs.length 0 lo)).take (HT.sIx xs.length xs.length hi - HT.sIx xs.length 0 lo), Heap.get?_push_size _ rfl⟩
def IF : V → Bool
 | .non => true
 | .bl _ => true
 | .int _ => true
 | .str _ => true
 | _ => false
def eqV : V → V → Bool
 | .non, .non => true
 | .bl a, .bl b => a == b
 | .bl a, .int b => (if a then 1 else 0) == b
 | .int a, .bl b => a == (if b then 1 else 0)
 | .int a, .int b => a == b
 | .str a, .str b => a == b
 | _, _ => false
theorem Vw {A : Around} {s : Shared} {y x : V} {u v : Value} (ry : RelV y u) (rx : RelV x v) (fy : IF y = true) (fx : IF x = true) : SeqAt.EqAt A s u v (eqV y x) := by
 cases y with
 | non =>
  cases ry
  cases x with
  | non => cases rx; exact SeqAt.EqAt.same _
  | bl b => cases rx; exact SeqAt.EqAt.none_bool b
  | int b => obtain ⟨t, rfl⟩ := rx; exact SeqAt.EqAt.none_int b t
  | str b => obtain ⟨t, rfl⟩ := rx; exact SeqAt.EqAt.none_str b t
  | _ => exact absurd (show false = true from fx) Bool.false_ne_true
 | bl a =>
  cases ry
  cases x with
  | non => cases rx; exact SeqAt.EqAt.bool_none a
  | bl b => cases rx; exact SeqAt.EqAt.bool_bool a b
  | int b => obtain ⟨t, rfl⟩ := rx; exact SeqAt.EqAt.bool_int a b t
  | str b => obtain ⟨t, rfl⟩ := rx; exact SeqAt.EqAt.bool_str a b t
  | _ => exact absurd (show false = true from fx) Bool.false_ne_true
 | int a =>
  obtain ⟨t', rfl⟩ := ry
  cases x with
  | non => cases rx; exact SeqAt.EqAt.int_none a t'
  | bl b => cases rx; exact SeqAt.EqAt.int_bool a t' b
  | int b => obtain ⟨t, rfl⟩ := rx; exact SeqAt.EqAt.int_int a t' b t
  | str b => obtain ⟨t, rfl⟩ := rx; exact SeqAt.EqAt.int_str a t' b t
  | _ => exact absurd (show false = true from fx) Bool.false_ne_true
 | str a =>
  obtain ⟨t', rfl⟩ := ry
  cases x with
  | non => cases rx; exact SeqAt.EqAt.str_none a t'
  | bl b => cases rx; exact SeqAt.EqAt.str_bool a t' b
  | int b => obtain ⟨t, rfl⟩ := rx; exact SeqAt.EqAt.str_int a t' b t
  | str b => obtain ⟨t, rfl⟩ := rx; exact SeqAt.EqAt.str_str a t' b t
  | _ => exact absurd (show false = true from fx) Bool.false_ne_true
 | _ => exact absurd (show false = true from fy) Bool.false_ne_true
def eqU (x : V) (u : Value) : Bool := match u with
 | .none => eqV .non x
 | .bool b => eqV (.bl b) x
 | .int i _ => eqV (.int i) x
 | .str z _ => eqV (.str z) x
 | _ => false
theorem Rz {x y : V} {u : Value} (r : RelV y u) (f : IF y = true) : eqU x u = eqV y x := by
 cases y with
 | non => cases r; rfl
 | bl b => cases r; rfl
 | int i => obtain ⟨t, rfl⟩ := r; rfl
 | str z => obtain ⟨t, rfl⟩ := r; rfl
 | _ => exact absurd (show false = true from f) Bool.false_ne_true
theorem Nf {x : V} : ∀ {xs : List V} {us : List Value}, Ag xs us → xs.all IF = true → us.any (eqU x) = xs.any fun y => eqV y x
 | _, _, .nil, _ => rfl
 | y :: xs, u :: us, .cons r t, f => by
  rw [List.all_cons, Bool.and_eq_true] at f
  rw [List.any_cons, List.any_cons, Rz r f.1, Nf t f.2]
theorem Km {A : Around} {s : Shared} {x : V} {v : Value} (rx : RelV x v) (fx : IF x = true) : ∀ {xs : List V} {us : List Value}, Ag xs us → xs.all IF = true → ∀ u ∈ us, SeqAt.EqAt A s u v (eqU x u)
 | _, _, .nil, _ => fun u hu => by cases hu
 | y :: xs, u :: us, .cons r t, f => fun u' hu => by
  rw [List.all_cons, Bool.and_eq_true] at f
  rcases List.mem_cons.mp hu with rfl | hu
  ·rw [Rz r f.1]; exact Vw r rx f.1 fx
  ·exact Km rx fx t f.2 u' hu
def inV (x : V) (xs : List V) : Bool := xs.any fun y => eqV y x
def rIn (K : PySem.W.Frag) (neg : Bool) : R2 := fun x y H Q => ∃ p xs, y = .ref p ∧ (SqL K H p xs ∨ SqT K H p xs) ∧ IF x = true ∧ xs.all IF = true ∧ Q (.bl (if neg then !inV x xs else inV x xs)) H
theorem Qg : OpR X (compareOp .In) (rIn X.K false) := by
 intro pins s σ H x y v u Q I rx ry h
 obtain ⟨p, xs, rfl, hq, fx, fs, q⟩ := h
 cases ry
 rcases hq with hq | hq
 ·obtain ⟨its, r, pl, hz⟩ := I.list hq
  refine SeqAt.in_listAt (eqU x) pl.isList (fun w hw => Km rx fx r fs w (by simpa using hw)) ⟨.bl _, H, I, rfl, ?_⟩
  rw [show its.toArray.any (eqU x) = its.any (eqU x) by simp, Nf r fs]
  exact q
 ·obtain ⟨its, r, pl, hz⟩ := I.tuple hq
  refine SeqAt.in_tupleAt (eqU x) pl (fun w hw => Km rx fx r fs w (by simpa using hw)) ⟨.bl _, H, I, rfl, ?_⟩
  rw [show its.toArray.any (eqU x) = its.any (eqU x) by simp, Nf r fs]
  exact q
theorem AQ : CB X (.builtin "len") (fun xs H Q => ∃ p ys, xs = [.ref p] ∧ (SqL X.K H p ys ∨ SqT X.K H p ys) ∧ Q (.int ys.length) H) := by
 intro pins s σ H xs us Q I r h
 obtain ⟨p, ys, rfl, hq, q⟩ := h
 obtain ⟨u, rfl, rx⟩ := vals1 r
 cases rx
 have hn := Lk
 rcases hq with hq | hq
 ·obtain ⟨its, r', pl, hz⟩ := I.list hq
  have hlen := r'.length
  exact Calls.call_len_list pl.isList (by simp only [List.size_toArray] <;> omega) ⟨.int ys.length, H, I.tok _, ⟨s.toks + 1, by rw [List.size_toArray, hlen]⟩, q⟩
 ·obtain ⟨its, r', pl, hz⟩ := I.tuple hq
  have hlen := r'.length
  exact len_tuple pl (by simp only [List.size_toArray] <;> omega) ⟨.int ys.length, H, I.tok _, ⟨s.toks + 1, by rw [List.size_toArray, hlen]⟩, q⟩
theorem NF : CB X (.type "list") (fun xs H Q => ∃ p ys, xs = [.ref p] ∧ (SqL X.K H p ys ∨ SqT X.K H p ys) ∧ ∀ l, H l = none → Q (.ref l) (upd H l (.lst ys))) := by
 intro pins s σ H xs us Q I r h
 obtain ⟨p, ys, rfl, hq, q⟩ := h
 obtain ⟨u, rfl, rx⟩ := vals1 r
 cases rx
 have fin : ∀ (its : List Value), Ag ys its → ys.length ≤ sizeLine → ∀ (h' : Heap) (c' : Nat), (∀ b o', s.heap.get? b = some o' → h'.get? b = some o') →
   h'.get? s.heap.objs.size = some { cls := .type "list", dict := none, data := .seq its.toArray c', slots := #[] } → EP X pins σ Q (.ref s.heap.objs.size) { s with heap := h' } := fun its r' hz h' c' kp e =>
  ⟨.ref s.heap.objs.size, _, I.laid (t' := s.toks) kp (Nat.le_refl _) (show As X.prog X.w _ h' _ (.lst ys) from ⟨hz, its, c', r', e⟩), rfl, q _ (I.hok.fresh (Nat.le_refl _))⟩
 rcases hq with hq | hq
 ·obtain ⟨its, r', pl, hz⟩ := I.list hq
  have hlen := r'.length
  obtain ⟨o, ho, hc, n, hd⟩ := pl.isList
  exact call_list_seq p (.inl rfl) ho hc hd (fun h' c' kp e => fin its r' hz h' c' kp e) (by simp only [List.size_toArray] <;> omega)
 ·obtain ⟨its, r', pl, hz⟩ := I.tuple hq
  have hlen := r'.length
  obtain ⟨o, ho, hc, n, hd⟩ := pl
  exact call_list_seq p (.inr rfl) ho hc hd (fun h' c' kp e => fin its r' hz h' c' kp e) (by simp only [List.size_toArray] <;> omega)
def tyV (K : PySem.W.Frag) (T : String) (x : V) (H : Hp) : Prop := match x with
 | .str _ => T = "str"
 | .int _ => T = "int"
 | .ref p => (T = "list" ∧ ∃ xs, SqL K H p xs) ∨ (T = "tuple" ∧ ∃ o, K.lookup p = some o ∧ o.cls = .type "tuple" ∧ o.dict = none) ∨
   (T = "dict" ∧ ((∃ kvs, H p = some (.dK kvs)) ∨ ∃ kvs, H p = some (.dT kvs))) ∨ (T = "set" ∧ ∃ S n, H p = some (.set S n))
 | _ => False
theorem SD {pins : List (Addr × Obj)} {σ : St} {H : Hp} {s : Shared} {T : String} {x : V} {v : Value} (I : Inv X pins σ H s) (r : RelV x v) (ty : tyV X.K T x H) :
  s.TypeIs v T ∧ ∀ a, v = .ref a → ∃ ob, s.heap.get? a = some ob ∧ ob.dict = none := by
 cases x with
 | str z =>
  obtain ⟨t, rfl⟩ := r
  cases (show T = "str" from ty)
  exact ⟨typeIs_str s z t, fun _ e => nomatch e⟩
 | int i =>
  obtain ⟨t, rfl⟩ := r
  cases (show T = "int" from ty)
  exact ⟨typeIs_int s i t, fun _ e => nomatch e⟩
 | ref p =>
  cases r
  rcases ty with ⟨rfl, xs, hq⟩ | ⟨rfl, o, hk, hc, hd⟩ | ⟨rfl, hk⟩ | ⟨rfl, S, n, hk⟩
  ·obtain ⟨its, _, pl, _⟩ := I.list hq
   refine ⟨pl.isList.typeIs, fun a e => ?_⟩
   cases e
   obtain ⟨o, n, e, c, hd, _⟩ := pl
   exact ⟨o, e, hd⟩
  ·refine ⟨⟨o, I.kIn p o hk, hc⟩, fun a e => ?_⟩
   cases e
   exact ⟨o, I.kIn _ o hk, hd⟩
  ·have z : ∃ o, s.heap.get? p = some o ∧ o.ExactDict := by
    rcases hk with ⟨kvs, hk⟩ | ⟨kvs, hk⟩
    ·obtain ⟨_, _, _, _, o, _, _, e, ex, _⟩ := I.hok p _ hk
     exact ⟨o, e, ex⟩
    ·obtain ⟨_, _, _, _, o, _, _, e, ex, _⟩ := I.hok p _ hk
     exact ⟨o, e, ex⟩
   obtain ⟨o, e, ex⟩ := z
   refine ⟨⟨o, e, ex.1⟩, fun a e2 => ?_⟩
   cases e2
   exact ⟨o, e, ex.2.1⟩
  ·obtain ⟨o, _, _, _, e, ex, _⟩ := I.hok p _ hk
   refine ⟨⟨o, e, ex.1⟩, fun a e2 => ?_⟩
   cases e2
   exact ⟨o, e, ex.2.1⟩
 | _ => exact False.elim ty
def Ug (K : PySem.W.Frag) (T : String) (r : V → List V → Hp → VK → Prop) (to : TE) : TE := fun σ H Q => to σ H fun x H1 => tyV K T x H1 ∧ r x [] H1 Q
def tBM (K : PySem.W.Frag) (T : String) (r : V → List V → Hp → VK → Prop) (to : TE) (t : TA) : TE := fun σ H Q => to σ H fun x H1 => tyV K T x H1 ∧ t σ H1 fun xs H2 => r x xs H2 Q
variable {o e : Expr} {es : List Expr} {to : TE} {t : TA} {name : Str} {apos cpos : Pos} {T id : String} {r : V → List V → Hp → VK → Prop}
theorem Rr (pa : PlainAttrs T) (slot : Slot T name id) (hty : typeOf (.builtin id) = pure (.type "method_descriptor")) (hm : MtR X id r) (ho : PE X o to)
  (hbase : attributeBase o name X.env (eval o X.env) = eval o X.env := by rfl) (hline : (apos.endLine == cpos.line) = true := by rfl) : PE X (.Call (.Attribute o name apos) [] [] cpos) (Ug X.K T r to) := by
 intro pins s σ H Q I h
 refine wpAny_Call_method0_late hbase hline (thn (ho pins s σ H _ I h) fun v s1 ⟨x, H1, I1, r1, ty, q1⟩ => ?_)
 obtain ⟨h1, h2⟩ := SD I1 r1 ty
 exact ⟨T, id, pa, slot, hty, h1, h2, Calls.callWith_builtin rfl (PySem.evalArgs_none (hm pins s1 σ H1 x [] v [] Q I1 r1 .nil q1))⟩
theorem Td (pa : PlainAttrs T) (slot : Slot T name id) (hty : typeOf (.builtin id) = pure (.type "method_descriptor")) (hm : MtR X id r) (ho : PE X o to) (ha : PA X (e :: es) t)
  (hbase : attributeBase o name X.env (eval o X.env) = eval o X.env := by rfl)
  (hfew : ((backTo cpos (starEach (e :: es) X.env)).all (fun x => !x.1) && (backToKw cpos (keywordEach [] X.env)).all (fun x => x.1.isSome)
   && decide ((e :: es).length + ([] : List Keyword).length + (if ([] : List Keyword).isEmpty then 0 else 1) < 30)) = true := by rfl)
  (hline : (apos.endLine == cpos.line) = true := by rfl) (hs : starEach (e :: es) X.env = (false, eval e X.env) :: starEach es X.env := by rfl) (hplain : (backTo cpos (starEach es X.env)).any (·.1) = false := by rfl) :
  PE X (.Call (.Attribute o name apos) (e :: es) [] cpos) (tBM X.K T r to t) := by
 intro pins s σ H Q I h
 refine wpAny_Call_method_late hbase hfew hline rfl (thn (ho pins s σ H _ I h) fun v s1 ⟨x, H1, I1, r1, ty, q1⟩ => ?_)
 obtain ⟨h1, h2⟩ := SD I1 r1 ty
 refine ⟨T, id, pa, slot, hty, h1, h2, ?_⟩
 have hA := ha cpos pins s1 σ H1 _ I1 q1
 rw [hs] at hA ⊢
 refine Calls.callWith_builtin (by show (false || (backTo cpos (starEach es X.env)).any (·.1)) = false; rw [hplain] <;> rfl) (Calls.evalArgs_plain ?_)
 exact thn hA fun us s2 ⟨vs, H2, I2, r2, q2⟩ => hm pins s2 σ H2 x vs v us Q I2 r1 r2 q2
end
end L2
namespace L2
open PySem PySem.Spec PyProof.Rows
def MtM (X : Cx) (id : String) (r : V → List V → Hp → VK → Prop) : Prop :=
 ∀ (pins : List (Addr × Obj)) (s : Shared) (σ : St) (H : Hp) (x : V) (xs : List V) (v : Value) (us : List Value) (Q : VK), Inv X pins σ H s → RelV x v → Ag xs us → r x xs H Q →
  wpAny (model X.prog X.w) X.A (call (.builtin id) (v :: us)) (EP X pins σ Q) X.xe s
theorem Ag.one : ∀ {x : V} {us : List Value}, Ag [x] us → ∃ u, us = [u] ∧ RelV x u
 | _, _, .cons r .nil => ⟨_, rfl, r⟩
theorem Ag.zero : ∀ {us : List Value}, Ag [] us → us = []
 | _, .nil => rfl
theorem Ag.dropLast {xs : List V} {us : List Value} (h : Ag xs us) : Ag xs.dropLast us.dropLast := by
 induction h with
 | nil => exact .nil
 | cons r t ih =>
  cases t with
  | nil => exact .nil
  | cons q t' => exact .cons r ih
theorem Ot {α : Type} (l : List α) : l.eraseIdx (l.length - 1) = l.dropLast := by
 induction l with
 | nil => rfl
 | cons a r ih =>
  cases r with
  | nil => rfl
  | cons b r =>
   have e : (a :: b :: r).length - 1 = ((b :: r).length - 1) + 1 := by
    have h1 : (a :: b :: r).length = r.length + 2 := rfl
    have h2 : (b :: r).length = r.length + 1 := rfl
    omega
   rw [e, List.eraseIdx_cons_succ, ih]
   all_goals rfl
section
variable {X : Cx} {pins : List (Addr × Obj)} {σ : St} {H : Hp} {s : Shared} {l b : Addr} {xs ys zs : List V}
theorem Inv.lset {its its' : List Value} {n : Nat} {f : Array Value → Array Value} {t' : Nat} (I : Inv X pins σ H s) (hH : H l = some (.lst xs))
  (e : s.heap.get? l = some { cls := .type "list", data := .seq its.toArray n }) (hf : f its.toArray = its'.toArray) (hv : Ag ys its') (hz : ys.length ≤ sizeLine) :
  Inv X pins σ (upd H l (.lst ys)) { s with heap := s.heap.update l (Obj.mapSeq f), toks := t' } := by
 have q := PySem.IsL.update e f
 rw [hf] at q
 refine I.write (x := l) (e := l) (by rw [hH]; exact trivial) (.inl rfl) (fun b' u hb hu => (Heap.get?_update_other s.heap (Obj.mapSeq f) (Ne.symm hb)).trans hu) ⟨_, q⟩ ?_
 exact ⟨hz, its', _, hv, q⟩
theorem Inv.lnew {its : List Value} {t' : Nat} (I : Inv X pins σ H s) (hv : Ag ys its) (hz : ys.length ≤ sizeLine) :
  Inv X pins σ (upd H s.heap.objs.size (.lst ys)) { s with heap := s.heap.push { cls := .type "list", data := .seq its.toArray }, toks := t' } :=
 I.laid (fun _ _ q => Heap.get?_push_of_some _ q) (Nat.le_refl _) ⟨hz, its, 0, hv, Heap.get?_push_size _ rfl⟩
theorem Inv.fresh (I : Inv X pins σ H s) : H s.heap.objs.size = none := I.hok.fresh (Nat.le_refl _)
theorem Inv.lstM (I : Inv X pins σ H s) (hH : H l = some (.lst xs)) : xs.length ≤ sizeLine ∧ ∃ (its : List Value) (n : Nat), Ag xs its ∧ xs.length = its.length ∧ s.heap.get? l = some { cls := .type "list", data := .seq its.toArray n } := by
 obtain ⟨z, its, n, r, e⟩ := I.hok l _ hH
 exact ⟨z, its, n, r, r.length, e⟩
end
section
variable {X : Cx}
def SO : V → List V → Hp → VK → Prop := fun x vs H Q => ∃ l xs y, x = .ref l ∧ vs = [y] ∧ H l = some (.lst xs) ∧ xs.length < sizeLine ∧ Q .non (upd H l (.lst (xs ++ [y])))
theorem Mz : MtM X "list.append" SO := by
 intro pins s σ H x vs v us Q I rx rv h
 obtain ⟨l, xs, y, rfl, rfl, hH, hz, q⟩ := h
 cases rx
 obtain ⟨u, rfl, ru⟩ := rv.one
 obtain ⟨z, its, n, r, hl, e⟩ := I.lstM hH
 refine call_meets F.slot_list_append ⟨_, e, rfl⟩ F.entry_list_append (F.args_list_append_2 _ _) (PySem.list_append l its.toArray n u (by rw [List.size_toArray]; omega)) ⟨e, ?_⟩
 refine ⟨.non, _, I.lset (its' := its ++ [u]) hH e (by simp) (r.append (.cons ru .nil)) ?_, rfl, q⟩
 rw [List.length_append, List.length_singleton]
 omega
def rPop : V → List V → Hp → VK → Prop := fun x vs H Q => ∃ l xs y, x = .ref l ∧ vs = [] ∧ H l = some (.lst xs) ∧ xs[xs.length - 1]? = some y ∧ Q y (upd H l (.lst xs.dropLast))
theorem UG : MtM X "list.pop" rPop := by
 intro pins s σ H x vs v us Q I rx rv h
 obtain ⟨l, xs, y, rfl, rfl, hH, hy, q⟩ := h
 cases rx
 have hus := rv.zero
 subst hus
 obtain ⟨z, its, n, r, hl, e⟩ := I.lstM hH
 obtain ⟨u, hu, ru⟩ := r.get hy
 have hy' : its.toArray[its.toArray.size - 1]? = some u := by
  show its.toArray[its.length - 1]? = some u
  rw [← Array.getElem?_toList, ← hl]
  exact hu
 refine call_meets F.slot_list_pop ⟨_, e, rfl⟩ F.entry_list_pop (F.args_list_pop_1 _) (MeetsSeq.list_pop_last l its.toArray n u hy' (by rw [List.size_toArray]; omega)) ⟨e, ?_⟩
 refine ⟨y, _, I.lset (its' := its.dropLast) hH e ?_ r.dropLast ?_, ru, q⟩
 ·show its.toArray.eraseIdxIfInBounds (its.toArray.size - 1) = its.dropLast.toArray
  rw [List.size_toArray, List.eraseIdxIfInBounds_toArray, Ot]
 ·rw [List.length_dropLast]
  omega
def RB : V → List V → Hp → VK → Prop := fun x vs H Q => ∃ l xs, x = .ref l ∧ vs = [] ∧ H l = some (.lst xs) ∧ Q .non (upd H l (.lst []))
theorem Q0 : MtM X "list.clear" RB := by
 intro pins s σ H x vs v us Q I rx rv h
 obtain ⟨l, xs, rfl, rfl, hH, q⟩ := h
 cases rx
 have hus := rv.zero
 subst hus
 obtain ⟨z, its, n, r, hl, e⟩ := I.lstM hH
 refine call_meets F.slot_list_clear ⟨_, e, rfl⟩ F.entry_list_clear (F.args_list_clear_1 _) (AutoSeq1.list_clear_list_0 l its.toArray n (by rw [List.size_toArray]; omega)) ⟨e, ?_⟩
 exact ⟨.non, _, I.lset (its' := []) (ys := []) hH e rfl .nil (Nat.zero_le _), rfl, q⟩
def rCat : R2 := fun x y H Q => ∃ l b xs zs, x = .ref l ∧ y = .ref b ∧ H l = some (.lst xs) ∧ H b = some (.lst zs) ∧ xs.length + zs.length ≤ sizeLine ∧ ∀ p, H p = none → Q (.ref p) (upd H p (.lst (xs ++ zs)))
theorem Vm : OpR X (binaryOp .Add) rCat := by
 intro pins s σ H x y v u Q I rx ry h
 obtain ⟨l, b, xs, zs, rfl, rfl, hH, hB, hz, q⟩ := h
 cases rx
 cases ry
 obtain ⟨z, its, n, r, hl, e⟩ := I.lstM hH
 obtain ⟨z2, its2, n2, r2, hl2, e2⟩ := I.lstM hB
 refine PySem.P.add_list e e2 ?_ (by rw [List.size_toArray, List.size_toArray]; omega)
 have ea : its.toArray ++ its2.toArray = (its ++ its2).toArray := by simp
 rw [ea]
 exact ⟨.ref _, _, I.lnew (t' := s.toks) (r.append r2) (by rw [List.length_append]; omega), rfl, q _ I.fresh⟩
end
section
variable {prog : Program} {w : World} {A : Around} {E : Value → Shared → Prop} {s : Shared}
set_option maxRecDepth 100000 in
end
section
variable {X : Cx}
end
end L2
namespace L2
open PySem PySem.Spec PyProof.Rows
section
variable {κ : Type} [DecidableEq κ]
def C0 (kvs : List (κ × V)) (k : κ) : Option V := (kvs.find? fun kv => decide (kv.1 = k)).map (·.2)
def Dp (kvs : List (κ × V)) (k : κ) (v : V) : List (κ × V) :=
 if (kvs.any fun kv => decide (kv.1 = k)) = true then kvs.map (fun kv => if kv.1 = k then (kv.1, v) else kv) else kvs ++ [(k, v)]
def dropK (kvs : List (κ × V)) (k : κ) : List (κ × V) := kvs.filter fun kv => decide (kv.1 ≠ k)
theorem BW {p : κ × V} {r : List (κ × V)} {k : κ} (e : p.1 = k) : C0 (p :: r) k = some p.2 := by simp [C0, List.find?_cons, e]
theorem BY {p : κ × V} {r : List (κ × V)} {k : κ} (e : ¬ p.1 = k) : C0 (p :: r) k = C0 r k := by simp [C0, List.find?_cons, e]
theorem Hs (k : κ) : ∀ kvs : List (κ × V), (kvs.any fun kv => decide (kv.1 = k)) = (C0 kvs k).isSome
 | [] => rfl
 | p :: r => by
  rw [List.any_cons]
  by_cases e : p.1 = k
  ·simp only [BW e, decide_eq_true e, Bool.true_or, Option.isSome_some]
  ·rw [BY e, decide_eq_false e, Bool.false_or]; exact Hs k r
theorem OC (k j : κ) (y : V) : ∀ kvs : List (κ × V), C0 (kvs.map fun kv => if kv.1 = k then (kv.1, y) else kv) j = (C0 kvs j).map fun x => if j = k then y else x
 | [] => rfl
 | p :: r => by
  have ih := OC k j y r
  rw [List.map_cons]
  by_cases h : p.1 = k
  ·rw [if_pos h]
   by_cases e : p.1 = j
   ·rw [BW (p := (p.1, y)) e, BW e, Option.map_some, if_pos (e.symm.trans h)]
   ·rw [BY (p := (p.1, y)) e, BY e, ih]
  ·rw [if_neg h]
   by_cases e : p.1 = j
   ·rw [BW (p := p) e, BW e, Option.map_some, if_neg (fun z => h (e.trans z))]
   ·rw [BY (p := p) e, BY e, ih]
theorem Mb (k j : κ) (y : V) : ∀ kvs : List (κ × V), C0 kvs k = none → C0 (kvs ++ [(k, y)]) j = if j = k then some y else C0 kvs j
 | [], _ => by
  by_cases e : k = j
  ·rw [if_pos e.symm]; exact BW (p := (k, y)) e
  ·rw [if_neg (fun z => e z.symm)]; exact BY (p := (k, y)) e
 | p :: r, hn => by
  rw [List.cons_append]
  have hk : ¬ p.1 = k := fun z => by rw [BW z] at hn; cases hn
  rw [BY hk] at hn
  have ih := Mb k j y r hn
  by_cases e : p.1 = j
  ·rw [BW e, BW e, if_neg (fun z => hk (e.trans z))]
  ·rw [BY e, BY e, ih]
theorem Rw (kvs : List (κ × V)) (k j : κ) (y : V) : C0 (Dp kvs k y) j = if j = k then some y else C0 kvs j := by
 unfold Dp
 by_cases a : (kvs.any fun kv => decide (kv.1 = k)) = true
 ·rw [if_pos a, OC]
  rw [Hs] at a
  by_cases e : j = k
  ·obtain ⟨x, hx⟩ := Option.isSome_iff_exists.mp a
   rw [if_pos e, e, hx, Option.map_some, if_pos rfl]
  ·rw [if_neg e]
   cases C0 kvs j with
   | none => rfl
   | some x => rw [Option.map_some, if_neg e]
 ·rw [if_neg a]
  refine Mb k j y kvs ?_
  rw [Hs] at a
  cases q : C0 kvs k with
  | none => rfl
  | some x => rw [q] at a; exact (a rfl).elim
theorem Fy (kvs : List (κ × V)) (k : κ) (v : V) : (Dp kvs k v).length ≤ kvs.length + 1 := by
 unfold Dp
 split
 ·rw [List.length_map]; omega
 ·rw [List.length_append, List.length_cons, List.length_nil]; omega
theorem Hu.isSome_eq {o : Option V} {u : Option Value} (r : Hu o u) : o.isSome = u.isSome := by
 cases o with
 | none => cases u with
  | none => rfl
  | some _ => exact (show False from r).elim
 | some _ => cases u with
  | none => exact (show False from r).elim
  | some _ => rfl
theorem KV.val {kvs : List (κ × V)} {vs : List (κ × Value)} (r : KV kvs vs) (k : κ) : Hu (C0 kvs k) (valueAt vs k) := by
 unfold KV at r
 induction r with
 | nil => exact True.intro
 | @cons p q ps qs h t ih =>
  obtain ⟨h1, h2⟩ := h
  by_cases e : p.1 = k
  ·have e' : q.1 = k := h1.symm.trans e
   have b : valueAt (q :: qs) k = some q.2 := by simp [valueAt, List.find?_cons, e']
   rw [BW e, b]; exact h2
  ·have e' : ¬ q.1 = k := fun z => e (h1.trans z)
   have b : valueAt (q :: qs) k = valueAt qs k := by simp [valueAt, List.find?_cons, e']
   rw [BY e, b]; exact ih
theorem KV.any {kvs : List (κ × V)} {vs : List (κ × Value)} (r : KV kvs vs) (k : κ) : (kvs.any fun kv => decide (kv.1 = k)) = vs.any fun kv => decide (kv.1 = k) := by
 unfold KV at r
 induction r with
 | nil => rfl
 | cons h t ih => rw [List.any_cons, List.any_cons, ih, h.1]
theorem KV.repl {kvs : List (κ × V)} {vs : List (κ × Value)} (r : KV kvs vs) (k : κ) {y : V} {u : Value} (ry : RelV y u) :
  KV (kvs.map fun kv => if kv.1 = k then (kv.1, y) else kv) (vs.map fun kv => if kv.1 = k then (kv.1, u) else kv) := by
 unfold KV at r ⊢
 induction r with
 | nil => exact .nil
 | @cons p q ps qs h t ih =>
  rw [List.map_cons, List.map_cons]
  refine .cons ?_ ih
  obtain ⟨h1, h2⟩ := h
  by_cases e : p.1 = k
  ·rw [if_pos e, if_pos (h1.symm.trans e)]; exact ⟨h1, ry⟩
  ·rw [if_neg e, if_neg (fun z => e (h1.trans z))]; exact ⟨h1, h2⟩
theorem KV.put {kvs : List (κ × V)} {vs : List (κ × Value)} (r : KV kvs vs) (k : κ) {y : V} {u : Value} (ry : RelV y u) : KV (Dp kvs k y) (stored vs k u) := by
 unfold Dp stored
 rw [r.any k]
 by_cases e : (vs.any fun kv => decide (kv.1 = k)) = true
 ·rw [if_pos e, if_pos e]; exact r.repl k ry
 ·rw [if_neg e, if_neg e]; exact Paired.snoc r ⟨rfl, ry⟩
theorem KV.length {kvs : List (κ × V)} {vs : List (κ × Value)} (r : KV kvs vs) : kvs.length = vs.length := Paired.length r
end
theorem SA {P : Program} {w : World} {k : Key} {u : Value} (r : RelV (kV k) u) : (Bj P w).is k u = true := by
 cases k with
 | inl i => obtain ⟨t, e⟩ := (show ∃ t, u = Value.int i t from r); subst e; exact Nn P w i t
 | inr x => obtain ⟨t, e⟩ := (show ∃ t, u = Value.str x t from r); subst e; exact N2 P w x t
theorem Mg {P : Program} {w : World} : ∀ {ks : List Key} {us : List Value}, Ag (ks.map kV) us → ItemsAre (Bj P w) ks us
 | [], _, r => by rw [List.map_nil] at r; cases r; exact .nil
 | k :: ks, _, r => by
  rw [List.map_cons] at r
  cases r with
  | cons h t => exact .cons (SA h) (Mg t)
abbrev KT (H : Hp) : List (List Key × V) → List (List Key × Addr × Value) → Prop := Paired fun p q => p.1 = q.1 ∧ H q.2.1 = some (.tup (p.1.map kV)) ∧ RelV p.2 q.2.2
theorem KT.val {H : Hp} {kvs : List (List Key × V)} {xs : List (List Key × Addr × Value)} (r : KT H kvs xs) (k : List Key) : Hu (C0 kvs k) ((atKey xs k).map (·.2)) := by
 induction r with
 | nil => exact True.intro
 | @cons p q ps qs h t ih =>
  obtain ⟨h1, _, h2⟩ := h
  by_cases e : p.1 = k
  ·have e' : q.1 = k := h1.symm.trans e
   have b : atKey (q :: qs) k = some q.2 := by simp [atKey, List.find?_cons, e']
   rw [BW e, b]; exact h2
  ·have e' : ¬ q.1 = k := fun z => e (h1.trans z)
   have b : atKey (q :: qs) k = atKey qs k := by simp [atKey, List.find?_cons, e']
   rw [BY e, b]; exact ih
theorem KT.repl {H : Hp} {kvs : List (List Key × V)} {xs : List (List Key × Addr × Value)} (r : KT H kvs xs) (k : List Key) {y : V} {u : Value} (ry : RelV y u) :
  KT H (kvs.map fun kv => if kv.1 = k then (kv.1, y) else kv) (xs.map (putAt k u)) := by
 induction r with
 | nil => exact .nil
 | @cons p q ps qs h t ih =>
  rw [List.map_cons, List.map_cons]
  refine .cons ?_ ih
  obtain ⟨h1, h2, h3⟩ := h
  unfold putAt
  by_cases e : p.1 = k
  ·rw [if_pos e, if_pos (h1.symm.trans e)]; exact ⟨h1, h2, ry⟩
  ·rw [if_neg e, if_neg (fun z => e (h1.trans z))]; exact ⟨h1, h2, h3⟩
theorem KT.put {H : Hp} {kvs : List (List Key × V)} {xs : List (List Key × Addr × Value)} (r : KT H kvs xs) (k : List Key) {b : Addr} {y : V} {u : Value} (hb : H b = some (.tup (k.map kV))) (ry : RelV y u) :
  KT H (Dp kvs k y) (storedH xs k b u) := by
 have e : (kvs.any fun kv => decide (kv.1 = k)) = (atKey xs k).isSome := by
  rw [Hs, (r.val k).isSome_eq, Option.isSome_map]
 unfold Dp storedH
 rw [e]
 by_cases q : (atKey xs k).isSome = true
 ·rw [if_pos q, if_pos q]; exact r.repl k ry
 ·rw [if_neg q, if_neg q]; exact Paired.snoc r ⟨rfl, hb, ry⟩
theorem KT.keeps {H H' : Hp} {kvs : List (List Key × V)} {xs : List (List Key × Addr × Value)} (r : KT H kvs xs) (ht : ∀ b ys, H b = some (.tup ys) → H' b = some (.tup ys)) : KT H' kvs xs :=
 Paired.mapP r fun _ _ z => ⟨z.1, ht _ _ z.2.1, z.2.2⟩
section
variable {P : Program} {w : World} {H : Hp} {h : Heap} {a : Addr}
theorem Tf {u : HO} (ok : HOk P w H h) (e : Rd H a u) : As P w H h a u := e.ok ok
theorem Te {kvs : List (Key × V)} (ok : HOk P w H h) (e : Rd H a (.dK kvs)) : kvs.length ≤ sizeLine ∧ (a == sysModules) = false ∧ ∃ vs, KV kvs vs ∧ h.DictOf (Bj P w) a vs :=
 show As P w H h a (.dK kvs) from Tf ok e
theorem dk_of {kvs : List (Key × V)} (ok : HOk P w H h) (e : H a = some (.dK kvs)) : kvs.length ≤ sizeLine ∧ (a == sysModules) = false ∧ ∃ vs, KV kvs vs ∧ h.DictOf (Bj P w) a vs := Te ok (.inl e)
theorem Ox {ks : List Key} (ok : HOk P w H h) (e : H a = some (.tup (ks.map kV))) : (tupleKind (Bj P w)).is h ks a := by
 obtain ⟨_, its, r, o, h1, h2, n, h3⟩ := (show As P w H h a (.tup (ks.map kV)) from ok a _ e)
 exact ⟨o, its.toArray, n, h1, h2, h3, by simpa using Mg r⟩
theorem TU {kvs : List (List Key × V)} (ok : HOk P w H h) (e : Rd H a (.dT kvs)) : kvs.length ≤ sizeLine ∧ (a == sysModules) = false ∧
  ∃ xs, KT H kvs xs ∧ h.DictOfH (tupleKind (Bj P w)) a xs := by
 obtain ⟨z, y, xs, r, o, es, ep, h1, h2, h3, h4, h5⟩ := (show As P w H h a (.dT kvs) from Tf ok e)
 refine ⟨z, y, xs, r, o, es, ep, h1, h2, h3, h4, fun x hx => ?_, h5⟩
 have all : ∀ {l : List (List Key × V)} {m : List (List Key × Addr × Value)}, KT H l m → ∀ x ∈ m, (tupleKind (Bj P w)).is h x.1 x.2.1 := by
  intro l m q
  induction q with
  | nil => intro x hx; exact nomatch hx
  | @cons p q ps qs hq t ih =>
   intro x hx
   rcases List.mem_cons.mp hx with e | hx
   ·subst e
    exact Ox ok (by rw [← hq.1]; exact hq.2.1)
   ·exact ih x hx
 exact all r x hx
theorem dt_of {kvs : List (List Key × V)} (ok : HOk P w H h) (e : H a = some (.dT kvs)) : kvs.length ≤ sizeLine ∧ (a == sysModules) = false ∧
  ∃ xs, KT H kvs xs ∧ h.DictOfH (tupleKind (Bj P w)) a xs := TU ok (.inl e)
end
def N6 (H : Hp) (a : Addr) (y : V) (r : Option V) : Prop :=
 (∃ kvs k, Rd H a (.dK kvs) ∧ y = kV k ∧ r = C0 kvs k) ∨ ∃ kvs k b, Rd H a (.dT kvs) ∧ y = .ref b ∧ H b = some (.tup (k.map kV)) ∧ r = C0 kvs k
def R1 (H : Hp) (a : Addr) (y v : V) (H' : Hp) : Prop :=
 (∃ kvs k, H a = some (.dK kvs) ∧ y = kV k ∧ kvs.length < sizeLine ∧ H' = upd H a (.dK (Dp kvs k v))) ∨
 ∃ kvs k b, H a = some (.dT kvs) ∧ y = .ref b ∧ H b = some (.tup (k.map kV)) ∧ kvs.length < sizeLine ∧ H' = upd H a (.dT (Dp kvs k v))
theorem N6.k {H : Hp} {a : Addr} {kvs : List (Key × V)} {k : Key} (e : H a = some (.dK kvs)) : N6 H a (kV k) (C0 kvs k) := .inl ⟨kvs, k, .inl e, rfl, rfl⟩
theorem R1.k {H : Hp} {a : Addr} {kvs : List (Key × V)} {k : Key} {v : V} (e : H a = some (.dK kvs)) (hl : kvs.length < sizeLine) : R1 H a (kV k) v (upd H a (.dK (Dp kvs k v))) := .inl ⟨kvs, k, e, rfl, hl, rfl⟩
section
variable {X : Cx} {pins : List (Addr × Obj)} {σ : St} {H : Hp} {s : Shared} {a : Addr} {y v : V} {u r : Value} {o : Option V} {A : Around} {E : Value → Shared → Prop}
theorem Inv.big (I : Inv X pins σ H s) : sysModules < s.heap.objs.size := by
 have h : mainGlobals < s.heap.objs.size := (I.mod.glob.keeps I.bk).lt
 exact Nat.lt_trans (by decide) h
theorem d_in {Q : Value → Shared → Prop} (hu : A.units + 1 < cLine) (I : Inv X pins σ H s) (g : N6 H a y o) (ry : RelV y u) (h : ∀ s', Inv X pins σ H s' → Q (.bool o.isSome) s') :
  wpAny (model X.prog X.w) A (compareOp .In u (.ref a)) Q E s := by
 rcases g with ⟨kvs, k, e, ey, l⟩ | ⟨kvs, k, b, e, ey, eb, l⟩
 ·subst ey
  obtain ⟨z, hd, vs, rel, dd⟩ := Te I.hok e
  refine wpAny_in_of (SA ry) hd dd.mapOf ?_
  rw [← (rel.val k).isSome_eq, ← l]
  exact h _ (I.tok _)
 ·subst ey
  cases (show u = Value.ref b from ry)
  obtain ⟨z, hd, xs, rel, dd⟩ := TU I.hok e
  refine wpAny_in_heap (tupleKind_room_in1 hu) (Ox I.hok eb) hd dd ?_
  have q := (rel.val k).isSome_eq
  rw [Option.isSome_map] at q
  rw [← q, ← l]
  exact h _ (I.tok _)
theorem Pw {h' : Heap} {t' : Nat} {ob : HO} (I : Inv X pins σ H s) (mu : Mut (H a)) (hs : Heap.SameBut a s.heap h') (he : ∃ q, h'.get? a = some q) (new : As X.prog X.w (upd H a ob) h' a ob) :
  Inv X pins σ (upd H a ob) { s with heap := h', toks := t' } :=
 I.write (x := a) (e := a) mu (.inl rfl) (fun b q hb z => (hs.2 b hb).trans z) he new
theorem Vb {P : Program} {w : World} {H' : Hp} {h' : Heap} {kvs : List (Key × V)} {vs : List (Key × Value)} (z : kvs.length ≤ sizeLine) (hd : (a == sysModules) = false) (rel : KV kvs vs) (dd : h'.DictOf (Bj P w) a vs) :
  As P w H' h' a (.dK kvs) := ⟨z, hd, vs, rel, dd⟩
theorem QK {H' : Hp} {Q : Unit → Shared → Prop} (hu : A.units + 1 < cLine) (I : Inv X pins σ H s) (g : R1 H a y v H') (ry : RelV y u) (rv : RelV v r) (h : ∀ s', Inv X pins σ H' s' → Q () s') :
  wpAny (model X.prog X.w) A (setItem (.ref a) u r) Q E s := by
 rcases g with ⟨kvs, k, e, ey, l, eH⟩ | ⟨kvs, k, b, e, ey, eb, l, eH⟩
 ·subst ey eH
  obtain ⟨z, hd, vs, rel, dd⟩ := dk_of I.hok e
  have hz : vs.length ≤ sizeLine := by rw [← rel.length]; exact z
  have hl : (Dp kvs k v).length ≤ sizeLine := by have := Fy kvs k v; omega
  refine wpAny_setItem_pairs (hsz := hz) (SA ry) dd fun h' dd' hs => h _ ?_
  have he : ∃ q, h'.get? a = some q := let ⟨q, _, _, hq, _⟩ := dd'; ⟨q, hq⟩
  exact Pw I (by rw [e]; exact True.intro) hs he (Vb hl hd (rel.put k rv) dd')
 ·subst ey eH
  cases (show u = Value.ref b from ry)
  obtain ⟨z, hd, xs, rel, dd⟩ := dt_of I.hok e
  have hz : xs.length ≤ sizeLine := by rw [← Paired.length rel]; exact z
  have hl : (Dp kvs k v).length ≤ sizeLine := by have := Fy kvs k v; omega
  refine wpAny_setItem_heap (hsz := hz) (tupleKind_room_in1 hu) (Ox I.hok eb) dd fun h' dd' hs => h _ ?_
  obtain ⟨q, es, ep, hq, h2, h3, h4, _, h5⟩ := dd'
  refine Pw I (by rw [e]; exact True.intro) hs ⟨q, hq⟩ ⟨hl, hd, _, (rel.put k eb rv).keeps fun c ys ec => ?_, q, es, ep, hq, h2, h3, h4, h5⟩
  rw [AG (GG ec e (fun z => nomatch z))]
  exact ec
end
section
variable {X : Cx} {pins : List (Addr × Obj)} {σ : St} {H : Hp} {s : Shared} {a : Addr} {kvs : List (Key × V)} {k : Key} {u : Value} {A : Around} {E : Value → Shared → Prop}
end
def Ho (td ty : TE) : TE := fun σ H Q => td σ H fun x H1 => ty σ H1 fun y H2 => ∃ a v, x = .ref a ∧ N6 H2 a y (some v) ∧ Q v H2
def MB (ty td : TE) : TE := fun σ H Q => ty σ H fun y H1 => td σ H1 fun x H2 => ∃ a o, x = .ref a ∧ N6 H2 a y o ∧ Q (.bl o.isSome) H2
def C6 (ty td : TE) : TE := fun σ H Q => ty σ H fun y H1 => td σ H1 fun x H2 => ∃ a o, x = .ref a ∧ N6 H2 a y o ∧ Q (.bl (!o.isSome)) H2
def G7 (td ty tv : TE) : TS := fun D σ H => tv σ H fun v H1 => td σ H1 fun x H2 => ty σ H2 fun y H3 => ∃ a H4, x = .ref a ∧ R1 H3 a y v H4 ∧ D.nx σ H4
section
variable {X : Cx} {o i e value : Expr} {pos pos' tpos : Pos} {td ty tv : TE}
theorem Uv (hu : X.A.units + 1 < cLine) (hi : PE X i ty) (ho : PE X o td) : PC X .In i o (MB ty td) := by
 intro pins s σ H Q I h
 refine thn (hi pins s σ H _ I h) fun iv s1 ⟨y, H1, I1, ry, q1⟩ => thn (ho pins s1 σ H1 _ I1 q1) fun u s2 ⟨x, H2, I2, rx, a, ov, ex, g, q2⟩ => ?_
 subst ex
 obtain rfl : u = Value.ref a := rx
 exact d_in hu I2 g ry fun s3 I3 => ⟨.bl ov.isSome, H2, I3, rfl, q2⟩
theorem SY (hu : X.A.units + 1 < cLine) (ho : PE X o td) (hi : PE X i ty) (hv : PE X value tv) (hs : swapsWith value (some (.Subscript o i pos')) pos.line X.env = pure false) :
  PS X (.Assign [.Subscript o i pos'] value pos) (G7 td ty tv) := by
 intro pins s σ H D I h
 refine wpAny_Assign_Subscript (thn (hv pins s σ H _ I h) fun r s1 ⟨v, H1, I1, rv, q1⟩ => thn (ho pins s1 σ H1 _ I1 q1) fun u s2 ⟨x, H2, I2, rx, q2⟩ => thn (hi pins s2 σ H2 _ I2 q2) fun iv s3 ⟨y, H3, I3, ry, a, H4, ex, g, q3⟩ => ?_) hs
 subst ex
 obtain rfl : u = Value.ref a := rx
 exact QK hu I3 g ry rv fun s4 I4 => ⟨σ, H4, I4, q3⟩
end
theorem Rv {P : Program} {w : World} {H : Hp} (h : Heap) (hb : sysModules < h.objs.size) : As P w H (h.push { cls := .type "dict", data := .dict #[] }) h.objs.size (.dK []) :=
 ⟨Nat.zero_le _, beq_eq_false_iff_ne.mpr (Ne.symm (Nat.ne_of_lt hb)), [], .nil, Heap.DictOf.new h⟩
def WG : TE := fun _ H Q => ∀ p, H p = none → Q (.ref p) (upd H p (.dK []))
section
variable {X : Cx} {pos : Pos}
theorem Rc : PE X (.Dict [] [] pos) WG := fun pins s σ H Q I h =>
 wpAny_Dict_empty ⟨.ref s.heap.objs.size, _, I.laid (a := s.heap.objs.size) (o := .dK []) (t' := s.toks) (fun _ _ q => Heap.get?_push_of_some _ q) (Nat.le_refl _) (Rv s.heap I.big), rfl, h _ (I.hok.fresh (Nat.le_refl _))⟩
end
def IsD (H : Hp) (a : Addr) : Prop := (∃ kvs, Rd H a (.dK kvs)) ∨ ∃ kvs, Rd H a (.dT kvs)
section
variable {X : Cx} {pins : List (Addr × Obj)} {σ : St} {H : Hp} {s : Shared} {a : Addr} {y d : V} {u r : Value} {o : Option V} {A : Around} {E : Value → Shared → Prop}
end
def Ek (td ty tx : TE) : TE := fun σ H Q => td σ H fun x H1 => ∃ a, x = .ref a ∧ IsD H1 a ∧ ty σ H1 fun y H2 => tx σ H2 fun z H3 => ∃ o, N6 H3 a y o ∧ Q (o.getD z) H3
def E1 (td ty : TE) : TE := fun σ H Q => td σ H fun x H1 => ∃ a, x = .ref a ∧ IsD H1 a ∧ ty σ H1 fun y H2 => ∃ kvs k v, H2 a = some (.dK kvs) ∧ y = kV k ∧ C0 kvs k = some v ∧ Q v (upd H2 a (.dK (dropK kvs k)))
section
variable {X : Cx} {o e f : Expr} {apos cpos : Pos} {td ty tx : TE}
end
section
variable {X : Cx} {pins : List (Addr × Obj)} {σ : St} {H : Hp} {s : Shared} {a : Addr} {kvs : List (Key × V)} {A : Around} {E : Value → Shared → Prop}
end
section
variable {X : Cx} {pins : List (Addr × Obj)} {σ : St} {H : Hp} {s : Shared} {a : Addr} {y : V} {u : Value} {A : Around} {E : Value → Shared → Prop}
end
end L2
namespace Att
open PySem PySem.W PySem.Calls PyProof.Rows
theorem ints_of_wellAll {P : Params} {h : Heap} : ∀ (ns : List Int) (vs : List Value), WellAll P h vs (ns.map WData.int) → IntsAre vs ns := by
 intro ns
 induction ns with
 | nil =>
  intro vs w
  rw [List.map_nil] at w
  cases w
  exact .nil
 | cons n ns ih =>
  intro vs w
  rw [List.map_cons] at w
  cases w with
  | cons a b =>
   cases a
   exact .cons _ _ (ih _ b)
theorem script_of {l : OpenLaw} {n : Nat} (hn : l.most = some n) {P : Params} {h : Heap} {args : List WData} {vals : List Value}
  (hpre : l.row.toRowW.claim.pre args = true) (hwl : WellAll P h vals args) :
  ∃ a vs ns, vals = [Value.ref a] ∧ args = [WData.list (ns.map WData.int)] ∧ h.get? a = some { cls := .type "list", data := .seq vs.toArray } ∧ IntsAre vs ns ∧ ns.length ≤ n := by
 have hsh : WShape.hasAll [] args [.list .int] = true := (pre_splitW hpre).1
 have hc : l.pre.holds [] { args := args } = true := (pre_splitW hpre).2
 obtain ⟨d, r, rfl, h1, h2⟩ := hasAllW_cons hsh
 obtain rfl := hasAllW_nil h2
 obtain ⟨xs, rfl, h3⟩ := hasW_list h1
 obtain ⟨ns, rfl⟩ := items_int h3
 have hlen : ns.length ≤ n := by
  unfold OpenLaw.pre at hc
  have h4 : (WTm.not (.lt (.lit (.int (n : Int))) (.len (.arg 0)))).holds [] { args := [.list (ns.map .int)] } = true := by
   have h4 := (holds_andW hc).1
   rw [hn] at h4
   exact h4
  have h5 := condW_of h4 (w_not (w_lt w_lit (w_len_list (w_arg rfl))))
  rw [List.length_map] at h5
  refine Nat.le_of_not_lt fun q => ?_
  have q' : (n : Int) < ((ns.length : Nat) : Int) := by omega
  first
   | (rw [decide_eq_true q'] at h5; exact absurd h5 (by decide))
   | (simp at h5; omega)
 cases hwl with
 | cons w1 w2 =>
  cases w2
  cases w1 with
  | list ho hall => exact ⟨_, _, ns, rfl, rfl, ho, ints_of_wellAll ns _ hall, hlen⟩
theorem post_true (l : OpenLaw) (args : List WData) : l.row.toRowW.claim.post args (.bool true) args = true :=
 postW_of (r := l.row.toRowW) (X := (true == true))
  (show WShape.has [] (.bool true) .bool = true by first | rfl | decide | simp [WShape.has, WShape.arms, WShape.armsAll])
  (show (WTm.eq .res (.lit (.bool true))).value [] { args := args, res := some (.bool true), after := args } = some (.bool (true == true)) from w_eq_bool (w_res rfl) w_lit) rfl
theorem attach_call {l : OpenLaw} {n : Nat} {q : Program} {loose : List Str} {XP : (Str → Option Value) → Heap → Prop} {YP : World → Heap → Prop} {d : DefRec}
  (hn : l.most = some n) (hdf : d.params.defaults = [])
  (call : ∀ (w : World) (s₀ s₁ : Shared) (mg mb : Str → Option Value) (fa : Addr) (o : Obj) (pm cd doc : Value) (a : Addr) (vs : List Value) (ns : List Int),
   Ground q loose [] XP w s₀ mg mb s₁.heap → YP w s₁.heap →
   s₁.heap.get? fa = some o → o.data = .func (docDef d.name d.params d.body d.scope pm cd doc) → s₁.heap.CodeRec cd d.name → mg d.name = some (.ref fa) →
   s₁.heap.get? a = some { cls := .type "list", data := .seq vs.toArray } → IntsAre vs ns → ns.length ≤ n → s₁.gens = #[] →
   codeAny (model l.prog w) callerA (.call (.ref fa) ⟨[.ref a], []⟩) (fun r s' => r = .ok (.ret (.bool true)) ∧ OldK s₁.heap s'.heap ∧ s'.os = s₁.os ∧ AllBare s'.gens) s₁) :
  WalkO q loose XP YP l.row.toRowW d [] (fun f vs => PySem.call f vs) := by
 intro w s₀ s₁ mg mb G Y fa o pm cd doc dV kV ho hd hcd hD hmg hg args vals as hpre hlay hrd hwl hlo
 obtain rfl : dV = .none := Dflts.none hD hdf
 obtain rfl : kV = .none := Dflts.noKw hD
 obtain ⟨a, vs, ns, rfl, rfl, hobj, hints, hlen⟩ := script_of hn hpre hwl
 refine enter_call (codeAny_mono (call w s₀ s₁ mg mb fa o pm cd doc a vs ns G Y ho (fd_plain hd) hcd hmg hobj hints hlen hg) fun r s' hq => ?_)
 obtain ⟨rfl, h2, h3, h4⟩ := hq
 exact ⟨.inl ⟨.bool true, .bool true, [], rfl, fun _ => rfl, .bool true, post_true l _, fun _ => ⟨List.Pairwise.nil, fun _ hm => (nomatch hm)⟩⟩, h2, h3, h4⟩
section
variable {prog : Program} {w : World} {A : Around} {E : Value → Shared → Prop} {s : Shared} {K : Frag}
def noObjs (h : Heap) : Heap := { h with objs := #[] }
theorem noObjs_get (h : Heap) (b : Addr) : (noObjs h).get? b = none := by
 cases e : (noObjs h).get? b with
 | none => rfl
 | some o => exact absurd (Heap.lt_size e) (Nat.not_lt_zero _)
def ledger (h : Heap) (L d : Addr) : List (Addr × Obj) := (List.range h.objs.size).filterMap fun a => if a = L ∨ a = d then none else (h.get? a).map fun o => (a, o)
theorem mem_ledger {h : Heap} {L d a : Addr} {o : Obj} : (a, o) ∈ ledger h L d ↔ a ≠ L ∧ a ≠ d ∧ h.get? a = some o := by
 unfold ledger
 rw [List.mem_filterMap]
 constructor
 ·rintro ⟨b, _, e⟩
  split at e
  ·cases e
  ·rename_i hb
   obtain ⟨o', ho, e'⟩ := Option.map_eq_some_iff.mp e
   cases e'
   exact ⟨fun q => hb (.inl q), fun q => hb (.inr q), ho⟩
 ·rintro ⟨n1, n2, ho⟩
  refine ⟨a, List.mem_range.mpr (Heap.lt_size ho), ?_⟩
  rw [if_neg (show ¬ (a = L ∨ a = d) from fun q => q.elim n1 n2), ho] <;> rfl
theorem fr_all {h : Heap} {L : Addr} {m : Str → Option Value} (n : h.Ns L m) : Fr (noObjs h) L h m :=
 ⟨n, fun b o e => (by rw [noObjs_get] at e; cases e), Nat.zero_le _⟩
end
end Att
namespace L2
open PySem PySem.Spec PyProof.Rows
theorem Mh : ∀ {vs : List Value} {ns : List Int}, IntsAre vs ns → Ag (ns.map V.int) vs
 | _, _, .nil => .nil
 | _, _, .cons n t h => .cons ⟨t, rfl⟩ (Mh h)
end L2
namespace L2
open PySem PySem.Spec PyProof.Rows
end L2
namespace L2
open PySem PySem.Spec PyProof.Rows
def BN (s : Stmt) (j : Nat) : Stmt := match s with
 | .ClassDef _ _ _ body _ _ _ _ _ _ _ => body.getD j (.Pass ⟨0, 0, 0, 0⟩)
 | _ => .Pass ⟨0, 0, 0, 0⟩
def CU (s : Stmt) : Arguments := match s with
 | .FunctionDef _ a _ _ _ _ _ _ _ _ => a
 | _ => { posonlyargs := [], args := [], vararg := none, kwonlyargs := [], kw_defaults := [], kwarg := none, defaults := [] }
def Bk (s : Stmt) : List Stmt := match s with
 | .FunctionDef _ _ b _ _ _ _ _ _ _ => b
 | _ => []
def AF (s : Stmt) : Scope := match s with
 | .FunctionDef _ _ _ _ _ _ sc _ _ _ => sc
 | _ => { kind := .function, names := [], isGenerator := false, isCoroutine := false }
abbrev CX0 : CXT := fun _ _ _ _ _ _ => False
abbrev E0 : XK := fun _ _ _ => False
theorem AV {X : Cx} : Dv CX0 X E0 := fun _ _ _ _ _ _ _ h => h.elim
structure Fun (K : PySem.W.Frag) (x qual : Str) (st : Stmt) (f : Addr) (fd : FuncData) : Prop where
 ex : ∃ (oc : Value) (od : Option Addr) (kV doc pm : Value) (an : Option Addr) (cdv ct : Value) (osl : Array (Option Value)),
  fd = PySem.W.fnOf x qual (CU st) (Bk st) (AF st) .none kV doc pm an cdv ct ∧ K.lookup f = some ⟨oc, od, .func fd, osl⟩ ∧ PySem.W.codeIn K cdv qual = true
 kp : PySem.W.keepIn K (.ref f) = true
section
variable {P : Program} {w : World} {K : PySem.W.Frag} {mg : Str → Option Value} {base : Heap}
theorem Fun.ok {x qual : Str} {st : Stmt} {f : Addr} {fd : FuncData} {N ps : List Str} {k : Nat} {sp : Sp} (F : Fun K x qual st f fd) (S : AN N ps (AF st)) (len : ∀ vs H Q E, sp vs H Q E → vs.length = ps.length)
  (hbody : ∀ (cdv : Value) (A : Around) (outer : List Env) (s : Shared) (H : Hp) (vs : List V) (Q : VK) (E : XK), Bz k (A.deeper (envOfC qual (AF st) s.heap.objs.size f cdv)) → sp vs H Q E →
   ∃ t, PSs (Ez CX0 P w K mg base N qual (AF st) f cdv A outer s H E).nox (Bk st) t ∧ t { nx := fun _ H' => Q .non H', rt := Q } (start N vs) H) : Ah P w K mg base CX0 (k + 1) f fd ps sp := by
 obtain ⟨oc, od, kV, doc, pm, an, cdv, ct, osl, rfl, lk, hcd⟩ := F.ex
 refine Ri lk hcd S len fun A outer s H vs Q E hr hsp => ?_
 obtain ⟨t, h, q⟩ := hbody cdv A outer s H vs Q E hr hsp
 exact ⟨t, h.nox, q⟩
theorem Fun.binds {x qual : Str} {st : Stmt} {f : Addr} {fd : FuncData} {ps : List Str} (F : Fun K x qual st f fd)
  (h : ∀ (kV doc pm : Value) (an : Option Addr) (cdv ct : Value) (us : List Value), us.length = ps.length → bindArgs (PySem.W.fnOf x qual (CU st) (Bk st) (AF st) .none kV doc pm an cdv ct) ⟨us, []⟩ = pure (ps.zip us)) : Binds K fd ps [] := by
 obtain ⟨oc, od, kV, doc, pm, an, cdv, ct, osl, rfl, lk, hcd⟩ := F.ex
 exact .all (h kV doc pm an cdv ct)
theorem Jj {x qual : Str} {st : Stmt} {f : Addr} {oc : Value} {od an : Option Addr} {osl : Array (Option Value)} {kV doc pm cdv ct : Value} (l : K.lookup f = some ⟨oc, od, .func (PySem.W.fnOf x qual (CU st) (Bk st) (AF st) .none kV doc pm an cdv ct), osl⟩)
  (c : PySem.W.codeIn K cdv qual = true) (k : PySem.W.keepIn K (.ref f) = true) : Fun K x qual st f (PySem.W.fnOf x qual (CU st) (Bk st) (AF st) .none kV doc pm an cdv ct) := ⟨⟨oc, od, kV, doc, pm, an, cdv, ct, osl, rfl, l, c⟩, k⟩
end
theorem Ad {A : Around} {k : Nat} (hr : Bz k A) : A.units + 1 < cLine := Nat.lt_of_le_of_lt (Nat.add_le_add_left (by decide : 1 ≤ 64) _) hr.units
section
variable {X : Cx}
theorem pv (i : Nat) {x : Str} {pos : Pos} (hN : X.N[i]? = some x := by rfl) (hv : Vis X.env.scope x := by first | exact Or.inl rfl | exact Or.inr (Or.inl rfl) | exact Or.inr (Or.inr rfl)) (hd : (x == ("__debug__" : Str)) = false := by decide)
  (hcd : (x == ("__classdict__" : Str)) = false := by decide) : PE X (.Name x pos) (KN i) := VR hN hv hd hcd
end
def AH (H H' : Hp) : Prop := ∀ b o, H b = some o → H' b = some o
theorem AH.refl (H : Hp) : AH H H := fun _ _ h => h
theorem AH.trans {H H1 H2 : Hp} (a : AH H H1) (b : AH H1 H2) : AH H H2 := fun c o h => b c o (a c o h)
theorem AH.free {H H' : Hp} (e : AH H H') {l : Addr} (h : H' l = Option.none) : H l = Option.none := by
 cases q : H l with
 | none => rfl
 | some o =>
  rw [e l o q] at h
  cases h
theorem AH.seq {K : PySem.W.Frag} {H H' : Hp} {a : Addr} {xs : List V} (e : AH H H') (h : SqL K H a xs) : SqL K H' a xs := by
 rcases h with (h | ⟨o, h⟩) | h
 ·exact .inl (.inl (e _ _ h))
 ·exact .inl (.inr ⟨o, e _ _ h⟩)
 ·exact .inr h
end L2
namespace L2
open PySem PySem.Spec PyProof.Rows
section
variable {X : Cx}
end
section
variable {κ : Type} [DecidableEq κ]
theorem Pp : ∀ {l : List κ} {k : κ}, l.Nodup → ¬ k ∈ l → (l ++ [k]).Nodup
 | [], k, _, _ => by simp
 | a :: r, k, h, hk => by
  obtain ⟨h1, h2⟩ := List.nodup_cons.mp h
  show (a :: (r ++ [k])).Nodup
  refine List.nodup_cons.mpr ⟨fun m => ?_, Pp h2 fun m => hk (List.mem_cons.mpr (Or.inr m))⟩
  rcases List.mem_append.mp m with q | q
  ·exact h1 q
  ·exact hk (List.mem_cons.mpr (Or.inl (List.mem_singleton.mp q).symm))
end
end L2
set_option Elab.async false
set_option linter.all false
set_option maxRecDepth 100000
namespace L2
open PySem PySem.Spec PyProof.Rows
theorem Ry : bootBuiltins "abs" = some (.builtin "abs") := by decide +kernel
theorem Ao : bootBuiltins "len" = some (.builtin "len") := by decide +kernel
theorem AY : bootBuiltins "isinstance" = some (.builtin "isinstance") := by decide +kernel
theorem PX : bootBuiltins "max" = some (.builtin "max") := by decide +kernel
theorem RU : bootBuiltins "min" = some (.builtin "min") := by decide +kernel
theorem Op : bootBuiltins "int" = some (.type "int") := by decide +kernel
theorem NB : bootBuiltins "bool" = some (.type "bool") := by decide +kernel
theorem IL : bootBuiltins "tuple" = some (.type "tuple") := by decide +kernel
theorem A8 : bootBuiltins "list" = some (.type "list") := by decide +kernel
theorem Q5 : bootBuiltins "str" = some (.type "str") := by decide +kernel
def Sm (i : Int) : Prop := i.natAbs < 2 ^ 4000
theorem Sm.of {i : Int} {n : Nat} (h : i.natAbs ≤ n) (hn : n < 2 ^ 4000) : Sm i := Nat.lt_of_le_of_lt h hn
theorem Sm.bits {i : Int} (h : Sm i) : Builtin.Int.intBits i ≤ 2 ^ 20 := by
 unfold Builtin.Int.intBits
 split
 ·exact Nat.zero_le _
 ·have hn : i.natAbs < 2 ^ 4000 := h
  have : i.natAbs.log2 < 4000 := by
   rcases Nat.eq_zero_or_pos i.natAbs with h0 | hp
   ·rw [h0]; decide
   ·exact (Nat.log2_lt (Nat.ne_of_gt hp)).mpr hn
  have h20 : (4000 : Nat) ≤ 2 ^ 20 := by decide
  omega
theorem Sm.log {i : Int} (h : Sm i) : i.natAbs.log2 < 9000 := by
 have hn : i.natAbs < 2 ^ 4000 := h
 rcases Nat.eq_zero_or_pos i.natAbs with h0 | hp
 ·rw [h0]; decide
 ·exact Nat.lt_trans ((Nat.log2_lt (Nat.ne_of_gt hp)).mpr hn) (by decide)
section
variable {X : Cx}
theorem CW : OpR X (binaryOp .Mult) (rI (fun i j => Sm i ∧ Sm j) fun i j => .int (i * j)) := opI fun _ _ _ _ _ _ _ hc q => mul_int q (.of_bits hc.1.bits hc.2.bits)
theorem N3 : OpR X (binaryOp .FloorDiv) (rI (fun _ j => j ≠ 0 ∧ Sm j) fun i j => .int (i.fdiv j)) := opI fun _ _ _ _ _ _ _ hc q => floordiv_int hc.1 q (.inl (PyProof.noPylong_of_log2 hc.2.log))
theorem Av : CB X (.builtin "isinstance") (fun xs H Q => ∃ x n t b, xs = [x, .ty n] ∧ CJ X.K H x t ∧ PySem.W.kitOne X.K t (.type n) = some b ∧ Q (.bl b) H) := by
 intro pins s σ H xs us Q I r h
 obtain ⟨x, n, t, b, rfl, ty, e, q⟩ := h
 obtain ⟨u, w', rfl, r1, r2⟩ := vals2 r
 cases (show w' = Value.type n from r2)
 exact QL I r1 ty e fun tk => ⟨.bl b, H, I.tok tk, rfl, q⟩
end
structure D (K : PySem.W.Frag) (mg : Str → Option Value) (x : Str) (st : Stmt) (ps : List Str) (f : Addr) (fd : FuncData) : Prop where
 F : Fun K x x st f fd
 m : mg x = some (.ref f)
 b : Binds K fd ps []
end L2
namespace L2
open PySem PySem.Spec PyProof.Rows
section
variable {X : Cx} {st : Stmt} {rest : List Stmt} {t u : TS}
theorem F5 {t u : TS} {D : Ld} {σ : St} {H : Hp} (h : ∀ M : St → Hp → Prop, (∀ σ' H', u D σ' H' → M σ' H') → t { D with nx := M } σ H) : OJ t u D σ H := h _ fun _ _ z => z
def tCut (t u : TS) : TS := fun D σ H => ∃ M : St → Hp → Prop, t { D with nx := M } σ H ∧ ∀ σ' H', M σ' H' → u D σ' H'
theorem IS (h1 : PS X st t) (h2 : PSs X rest u) : PSs X (st :: rest) (tCut t u) := by
 intro pins s σ H D I h
 obtain ⟨M, h, hM⟩ := h
 refine wpAny_execs_cons (thn (h1 pins s σ H _ I h) fun f s1 q => ?_)
 cases f with
 | next =>
  obtain ⟨σ', H', I', q⟩ := q
  exact h2 pins s1 σ' H' D I' (hM σ' H' q)
 | ret v => exact q
 | brk => exact q
 | cont => exact q
end
end L2
namespace L2
open PySem PySem.Spec PyProof.Rows
theorem cxK {CX : CXT} {P : Program} {w : World} {K : PySem.W.Frag} {mg : Str → Option Value} {base : Heap} {N : List Str} {qual : Str} {scope : Scope} {f : Addr} {cd : Value} {A : Around} {outer : List Env} {s : Shared} {H : Hp} {E : XK} :
 (Ez CX P w K mg base N qual scope f cd A outer s H E).K = K := rfl
end L2
namespace L2
theorem JK : Int.natAbs 10 = 10 := rfl
theorem My : Int.natAbs 2 = 2 := rfl
end L2
namespace L2
theorem Ax {H : Hp} {p : PySem.Addr} {o : HO} (hp : H p = none) : AH H (upd H p o) := fun b u e => by
 rw [AG (AI e hp)]; exact e
theorem AH.tup {K : PySem.W.Frag} {H H' : Hp} {a : PySem.Addr} {xs : List V} (e : AH H H') (h : SqT K H a xs) : SqT K H' a xs := by
 rcases h with (h | ⟨o, h⟩) | h
 ·exact .inl (.inl (e _ _ h))
 ·exact .inl (.inr ⟨o, e _ _ h⟩)
 ·exact .inr h
end L2
namespace L2
open PySem PySem.Spec PyProof.Rows
section
variable {X : Cx} {es : List Expr} {t : TA} {pos : Pos}
def G8 (t : TA) : TE := fun σ H Q => t σ H fun xs H1 => xs.length ≤ sizeLine ∧ ∀ p H', H1 p = none → AH H1 H' → H' p = some (.tup xs) → Q (.ref p) H'
def G9 (t : TA) : TE := fun σ H Q => t σ H fun xs H1 => xs.length ≤ sizeLine ∧ ∀ p H', H1 p = none → AH H1 H' → H' p = some (.lst xs) → Q (.ref p) H'
theorem AZ {x1} (h : PA X es t) : PE X (.Tuple es x1 pos) (G8 t) := by
 intro pins s σ H Q I hq
 refine wpAny_Tuple_spliced (thn (h pos pins s σ H _ I hq) fun us s1 ⟨xs, H1, I1, r, z, q⟩ => ⟨by rw [← r.length]; exact z, ?_⟩)
 have hf : H1 s1.heap.objs.size = none := I1.hok.fresh (Nat.le_refl _)
 refine ⟨.ref s1.heap.objs.size, upd H1 s1.heap.objs.size (.tup xs), I1.laid (t' := s1.toks) (fun b u e => Heap.get?_push_of_some _ e) (Nat.le_refl _) ?_, rfl, q _ _ hf (Ax hf) AO⟩
 exact ⟨z, us, r, ⟨_, Heap.get?_push_size _ rfl, rfl, _, rfl⟩⟩
theorem Ar (h : PA X es t) : PE X (.List es pos) (G9 t) := by
 intro pins s σ H Q I hq
 refine wpAny_List_spliced (thn (h pos pins s σ H _ I hq) fun us s1 ⟨xs, H1, I1, r, z, q⟩ => ⟨by rw [← r.length]; exact z, ?_⟩)
 have hf : H1 s1.heap.objs.size = none := I1.hok.fresh (Nat.le_refl _)
 refine ⟨.ref s1.heap.objs.size, upd H1 s1.heap.objs.size (.lst xs), I1.laid (t' := s1.toks) (fun b u e => Heap.get?_push_of_some _ e) (Nat.le_refl _) ?_, rfl, q _ _ hf (Ax hf) AO⟩
 exact ⟨z, us, 0, r, Heap.get?_push_size _ rfl⟩
end
end L2
namespace L2
theorem AH.get {H H' : Hp} (s : AH H H') {b : PySem.Addr} {o : HO} (h : H b = some o) : H' b = some o := s b o h
end L2
namespace L2
theorem Ir {α : Sort _} {p q : α → Prop} (w : α) (h1 : p w) (h2 : q w) : ∃ x, p x ∧ q x := ⟨w, h1, h2⟩
theorem exOrL {α : Sort _} {p p' q : α → Prop} (w : α) (h1 : p w) (h2 : q w) : ∃ x, (p x ∨ p' x) ∧ q x := ⟨w, .inl h1, h2⟩
theorem exOrR {α : Sort _} {p p' q : α → Prop} (w : α) (h1 : p' w) (h2 : q w) : ∃ x, (p x ∨ p' x) ∧ q x := ⟨w, .inr h1, h2⟩
end L2
namespace L2
open PySem PySem.Spec PyProof.Rows
section
variable {X : Cx}
theorem OpR.weak {f : Value → Value → Sem Value} {r r' : R2} (h : OpR X f r) (m : ∀ x y H Q, r' x y H Q → r x y H Q) : OpR X f r' :=
 fun pins s σ H x y v u Q I rx ry q => h pins s σ H x y v u Q I rx ry (m x y H Q q)
theorem CB.weak {f : Value} {r r' : List V → Hp → VK → Prop} (h : CB X f r) (m : ∀ xs H Q, r' xs H Q → r xs H Q) : CB X f r' :=
 fun pins s σ H xs us Q I rx q => h pins s σ H xs us Q I rx (m xs H Q q)
def Gk : R2 := fun x y H Q => ∃ l b, x = .ref l ∧ y = .ref b ∧ ∃ xs, H l = some (.lst xs) ∧ ∃ zs, H b = some (.lst zs) ∧ xs.length + zs.length ≤ sizeLine ∧ ∀ p H', H p = none → AH H H' → H' p = some (.lst (xs ++ zs)) → Q (.ref p) H'
theorem P4 : OpR X (binaryOp .Add) Gk := Vm.weak fun _ _ _ _ ⟨l, b, e1, e2, xs, h1, zs, h2, h3, q⟩ => ⟨l, b, xs, zs, e1, e2, h1, h2, h3, fun p hp => q p _ hp (Ax hp) AO⟩
def C7 (K : PySem.W.Frag) : List V → Hp → VK → Prop := fun xs H Q => ∃ p, xs = [.ref p] ∧ ∃ ys, SqL K H p ys ∧ ∀ l H', H l = none → AH H H' → H' l = some (.tup ys) → Q (.ref l) H'
def CS (K : PySem.W.Frag) : List V → Hp → VK → Prop := fun xs H Q => ∃ p, xs = [.ref p] ∧ ∃ ys, (SqL K H p ys ∨ SqT K H p ys) ∧ ∀ l H', H l = none → AH H H' → H' l = some (.lst ys) → Q (.ref l) H'
theorem Bb : CB X (.type "list") (CS X.K) := NF.weak fun _ _ _ ⟨p, e, ys, h, q⟩ => ⟨p, ys, e, h, fun l hl => q l _ hl (Ax hl) AO⟩
end
def Md (i : Int) : Prop := i.natAbs ≤ 10 ^ 60
theorem Md.sm {i : Int} (h : Md i) : Sm i := Sm.of h (by decide +kernel)
theorem Md.mul {i j : Int} (h : Md i) (g : Md j) : (i * j).natAbs ≤ 10 ^ 120 := by
 rw [Int.natAbs_mul]; exact Nat.le_trans (Nat.mul_le_mul h g) (by decide +kernel)
theorem Md.mulS {i j : Int} (h : Md i) (g : Md j) : Sm (i * j) := Sm.of (h.mul g) (by decide +kernel)
end L2
namespace L2
theorem Ut {c A B : Prop} [Decidable c] (hc : ¬ c) (h : B) : if c then A else B := by rw [if_neg hc]; exact h
theorem VO {c A B : Prop} [Decidable c] (hc : c) (h : A) : if c then A else B := by rw [if_pos hc]; exact h
theorem Ti {H H' : Hp} (h : AH H H') : True := trivial
end L2
namespace L2
open PySem PySem.Spec PyProof.Rows
section
variable {X : Cx}
end
theorem Bu {a b : Int} {m n : Nat} (ha : a.natAbs ≤ m) (hb : b.natAbs ≤ n) : (a * b).natAbs ≤ m * n := by
 rw [Int.natAbs_mul]; exact Nat.mul_le_mul ha hb
theorem atL2 {x y e : Int} (h0 : 0 ≤ e) (h1 : e < 2) : ∃ v : Int, atI [V.int x, V.int y] e = some (V.int v) ∧ (v = x ∨ v = y) := by
 rcases (by omega : e = 0 ∨ e = 1) with rfl | rfl
 ·exact ⟨x, rfl, .inl rfl⟩
 ·exact ⟨y, rfl, .inr rfl⟩
end L2
set_option Elab.async false
set_option linter.all false
set_option maxRecDepth 100000
set_option maxHeartbeats 4000000
namespace L2
open PySem PySem.Spec PyProof.Rows
section
variable {prog : Program} {w : World} {A : Around} {R : Result → Shared → Prop} {s : Shared}
theorem Nq {elt target iter : Expr} {ifs : List Expr} {scope : Scope} {pos : Pos} {it acc : Value} {env : Env} (I : Nat → Shared → Prop) {N : Value → Shared → Prop} (hN : N = notedBy (model prog w) A env fun e s' => R (.error e) s')
  (turn : ∀ n s, I n s → wpAny (model prog w) A (pyNext it) (fun r s₁ => match r with
   | none => R (.ok .next) s₁
   | some v => wpAny (model prog w) A (letOwnedTupleGo target it v) (fun _ s₁' => wpAny (model prog w) A (assign target env v) (fun _ s₂ =>
     wpAny (model prog w) A (forIn ifs true fun c r => if r = true then do let ok ← isTrue c env (eval c env); pure (ForInStep.yield ok) else pure (ForInStep.yield r)) (fun ok s₃ =>
      if ok = true then wpAny (model prog w) A (eval elt env) (fun x s₄ => wpAny (model prog w) A (call (.builtin "list.append") [acc, x]) (fun _ s₅ => ∃ m, m < n ∧ I m s₅) N s₄) N s₃
      else ∃ m, m < n ∧ I m s₃) N s₂) N s₁') N s₁) N s)
  (n : Nat) (h : I n s) : codeAny (model prog w) A (.compLoop (.ListComp elt [⟨target, iter, ifs, 0⟩] scope pos) 0 it acc env) R s := by
 subst hN
 refine codeAny_loop rfl I (fun n s hI => ?_) n h
 show wpAny _ A ((compTurn (.ListComp elt [⟨target, iter, ifs, 0⟩] scope pos) 0 it acc env).onRaise (fun x => do noteFrame x env; theTreesLotGoes x)) _ _ s
 refine wpAny_noted ?_
 rw [compTurn_list]
 refine wpAny_bind (wpAny_standAt (wpAny_bind (wpAny_mono (turn n s hI) (fun r s₁ h₁ => ?_) fun _ _ h' => h')))
 cases r with
 | none => exact wpAny_pure h₁
 | some v =>
  refine wpAny_bind (wpAny_mono h₁ (fun _ s₁' h₁' => ?_) fun _ _ h' => h')
  refine wpAny_bind (wpAny_mono h₁' (fun _ s₂ h₂ => wpAny_bind (wpAny_mono h₂ (fun ok s₃ h₃ => ?_) fun _ _ h' => h')) fun _ _ h' => h')
  cases ok with
  | false => exact wpAny_pure ⟨rfl, h₃⟩
  | true =>
   exact wpAny_bind (wpAny_bind (wpAny_mono h₃ (fun x s₄ h₄ => wpAny_bind (wpAny_mono h₄ (fun _ s₅ h₅ => wpAny_pure (wpAny_pure ⟨rfl, h₅⟩)) fun _ _ h' => h')) fun _ _ h' => h'))
end
def BS (X : Cx) (sc : Scope) (cl : List (Str × Addr)) (N : List Str) (C : Addr) (s : Shared) (H : Hp) (ex : List Addr) : Cx :=
 { X with N := N, s₀ := s, H₀ := H, env := compEnvC sc cl C X.env, outer := X.stack, stack := X.stack, ex := ex, fn := fun _ => false, pn := [], xe := fun _ _ => False }
def BL (X : Cx) (caps : List Str) : List (Str × Addr) := caps.map fun n => (n, (X.env.cells.lookup n).getD 0)
def Dt (σ : St) (ix : List Nat) : St := ix.map fun i => (σ[i]?).join
structure Az (X : Cx) (sc : Scope) (x : Str) (caps : List Str) (ix : List Nat) : Prop where
 kind : sc.kind = .function
 nocell : ∀ y ∈ sc.names, y.2 ≠ .cell
 names : ∀ y ∈ sc.names, y.2 = .local → sc.names.lookup y.1 = some .local
 free : ∀ y ∈ sc.names, y.2 = .free → y.1 ∈ caps
 hx : sc.names.lookup x = some .local
 nd : (x :: caps).Nodup
 clos : closureFor sc X.env = pure (BL X caps)
 cap : caps.map X.env.kindOf = caps.map fun _ => some NameKind.cell
 rl : (caps.map fun n => (relabel sc X.env).names.lookup n) = caps.map fun _ => some NameKind.cell
 slots : (ix.map fun i => X.N[i]?) = caps.map some
theorem Nc {α β : Type} {f g : α → β} {l : List α} (h : l.map f = l.map g) {a : α} (ha : a ∈ l) : f a = g a := by
 induction l with
 | nil => exact absurd ha (by simp)
 | cons b r ih =>
  rw [List.map_cons, List.map_cons, List.cons.injEq] at h
  rcases List.mem_cons.mp ha with rfl | ha
  ·exact h.1
  ·exact ih h.2 ha
theorem IE {X : Cx} : ∀ {caps : List Str} {n : Str} {c : Addr}, (BL X caps).lookup n = some c → n ∈ caps ∧ c = (X.env.cells.lookup n).getD 0
 | [], _, _, h => by simp [BL] at h
 | a :: r, n, c, h => by
  have h : List.lookup n ((a, (X.env.cells.lookup a).getD 0) :: BL X r) = some c := h
  rw [List.lookup_cons] at h
  cases e : n == a with
  | true =>
   rw [e] at h
   have e' : n = a := by simpa using e
   subst e'
   exact ⟨List.mem_cons_self, (Option.some.inj h).symm⟩
  | false =>
   rw [e] at h
   obtain ⟨h1, h2⟩ := IE h
   exact ⟨List.mem_cons_of_mem _ h1, h2⟩
theorem Jo {X : Cx} : ∀ {caps : List Str} {n : Str}, n ∈ caps → ∃ c, (BL X caps).lookup n = some c
 | [], _, h => absurd h (by simp)
 | a :: r, n, h => by
  show ∃ c, List.lookup n ((a, (X.env.cells.lookup a).getD 0) :: BL X r) = some c
  rw [List.lookup_cons]
  cases e : n == a with
  | true => exact ⟨_, rfl⟩
  | false =>
   have ne : n ≠ a := by simpa using e
   exact Jo ((List.mem_cons.mp h).resolve_left ne)
section
variable {X : Cx} {pins : List (Addr × Obj)} {σ : St} {H : Hp} {s : Shared} {sc : Scope} {x : Str} {caps : List Str} {ix : List Nat}
theorem Az.cell {n : Str} {c : Addr} (S : Az X sc x caps ix) (ok : X.Ok) (h : (BL X caps).lookup n = some c) : n ∈ caps ∧ X.env.cells.lookup n = some c := by
 obtain ⟨h1, h2⟩ := IE h
 obtain ⟨c', e⟩ := ok.has n (.inl (Nc S.cap h1))
 refine ⟨h1, ?_⟩
 rw [h2, e]; rfl
theorem Az.isCap (S : Az X sc x caps ix) {y : Str} (h : (relabel sc X.env).names.lookup y = some .cell ∨ (relabel sc X.env).names.lookup y = some .free) : y ∈ caps := by
 have key : ∀ k, (relabel sc X.env).names.lookup y = some k → k = .cell ∨ k = .free → y ∈ caps := fun k hk hk2 => by
  have hm := PySem.mem_of_lookup hk
  obtain ⟨⟨n, k'⟩, hn, e⟩ := List.mem_map.mp (show (y, k) ∈ sc.names.map _ from hm)
  dsimp only at e
  split at e
  ·rename_i hc
   have hk' : k' = .free := by
    simp only [Bool.and_eq_true, beq_iff_eq] at hc
    exact hc.1.1
   injection e with e1 e2
   subst e1
   exact S.free _ hn hk'
  ·injection e with e1 e2
   subst e1 e2
   rcases hk2 with rfl | rfl
   ·exact absurd rfl (S.nocell _ hn)
   ·exact S.free _ hn rfl
 rcases h with h | h
 ·exact key _ h (.inl rfl)
 ·exact key _ h (.inr rfl)
theorem Az.ok (S : Az X sc x caps ix) (I : Inv X pins σ H s) {fp : List Addr} {C : Addr} (hC : s.heap.objs.size ≤ C) (hf : ∀ b ∈ fp, KS X pins H b) (hb : ∀ b ∈ fp, b < s.heap.objs.size) :
  (BS X sc (BL X caps) (x :: caps) C s H fp).Ok where
 mod := I.ok.mod
 kind := S.kind
 glob := I.ok.glob
 blt := I.ok.blt
 above := hC
 inj := fun y z c h1 h2 => I.ok.inj y z c (S.cell I.ok h1).2 (S.cell I.ok h2).2
 has := fun y hy => Jo (S.isCap hy)
 cab := fun _ _ h => absurd h (by intro z; cases z)
 hd := I.ok.hd
 frames := I.ok.frames
 stk := .inl rfl
 exf := fun b hbf => ⟨Nat.ne_of_lt (Nat.lt_of_lt_of_le (hb b hbf) hC), fun y c h => (hf b hbf).2.2.2.2.1 y c (S.cell I.ok h).2⟩
 bs := I.bs
 bsz := Nat.le_trans I.ok.bsz I.sz
 noex := fun b o e hbf => by
  rcases (hf b hbf).2.2.2.1 with z | z
  ·exact I.ok.noex b o e z
  ·exact absurd (Nat.lt_of_lt_of_le (Heap.lt_size (I.ok.bs b o e).1) z) (Nat.lt_irrefl _)
 exfs := fun b hbf hm => by
  rcases List.mem_cons.mp (I.stkSub b hm) with z | z
  ·exact (hf b hbf).2.1 z
  ·exact (hf b hbf).2.2.1 z
 funs := I.stack
 frf := I.stkFree
theorem RD (S : Az X sc x caps ix) : (Dt σ ix).length = caps.length := by
 have := congrArg List.length S.slots
 simpa [Dt] using this
theorem Pc : ∀ {ix : List Nat} {caps : List Str} {N : List Str} {k : Nat} {n : Str}, (ix.map fun i => N[i]?) = caps.map some → caps[k]? = some n → ∃ i, ix[k]? = some i ∧ N[i]? = some n
 | [], [], _, _, _, _, h => by simp at h
 | [], _ :: _, _, _, _, h, _ => by simp at h
 | _ :: _, [], _, _, _, h, _ => by simp at h
 | i :: ix, a :: caps, N, 0, n, h, e => by
  rw [List.map_cons, List.map_cons, List.cons.injEq] at h
  simp at e; subst e
  exact ⟨i, rfl, h.1⟩
 | i :: ix, a :: caps, N, k + 1, n, h, e => by
  rw [List.map_cons, List.map_cons, List.cons.injEq] at h
  obtain ⟨j, h1, h2⟩ := Pc (k := k) h.2 (by simpa using e)
  exact ⟨j, by simpa using h1, h2⟩
theorem Az.start (S : Az X sc x caps ix) (I : Inv X pins σ H s) {fp : List Addr} {C D : Addr} {h' : Heap} {m : Str → Option Value} {tk : Nat} (hf : ∀ b ∈ fp, KS X pins H b) (hb : ∀ b ∈ fp, b < s.heap.objs.size)
  (hD : s.heap.objs.size ≤ D) (hC : s.heap.objs.size ≤ C) (hDC : D ≠ C) (k : ∀ b o, s.heap.get? b = some o → h'.get? b = some o) (hd : h'.get? D = some { cls := .type "list", data := .seq #[] 0 }) (hn : h'.Ns C m) :
  Inv (BS X sc (BL X caps) (x :: caps) C s H fp) [] (none :: Dt σ ix) (upd H D (.lst [])) { s with heap := h', toks := tk } where
 ok := S.ok I hC hf hb
 os := rfl
 bare := I.bare
 base := Un.laid k hD (I.hok.fresh hD)
 loc := by
  refine ⟨m, hn, fun i y v h1 h2 _ => ?_⟩
  cases i with
  | zero => simp at h2
  | succ i =>
   have h1 : caps[i]? = some y := by simpa [BS] using h1
   have h2 : (Dt σ ix)[i]? = some (some v) := by simpa using h2
   obtain ⟨j, e1, e2⟩ := Pc S.slots h1
   have h3 : σ[j]? = some (some v) := by
    unfold Dt at h2
    rw [List.getElem?_map, e1] at h2
    have h2 : (σ[j]?).join = some v := by simpa using h2
    cases q : σ[j]? with
    | none => rw [q] at h2; cases h2
    | some o => rw [q] at h2; cases o with
     | none => cases h2
     | some u => cases h2; rfl
   have hy : y ∈ caps := List.mem_of_getElem? h1
   obtain ⟨m0, hn0, hl0⟩ := I.loc
   obtain ⟨u, r, l⟩ := hl0 j y v e2 h3 (.inr (.inl (Nc S.cap hy)))
   refine ⟨u, r, .inr ⟨.inl (Nc S.rl hy), ?_⟩⟩
   rcases l with ⟨z, _⟩ | ⟨_, c, hc, hcell⟩
   ·have z2 : X.env.kindOf y = some .cell := Nc S.cap hy
    rw [z] at z2; cases z2
   ·obtain ⟨c', hc'⟩ := Jo (X := X) hy
    have := (S.cell I.ok hc').2
    rw [hc] at this; cases this
    obtain ⟨o, ho, hdt⟩ := hcell
    exact ⟨c, hc', o, k _ _ ho, hdt⟩
 cell := fun y c h => by
  obtain ⟨v, o, ho, hdt⟩ := I.cell y c (S.cell I.ok h).2
  exact ⟨v, o, k _ _ ho, hdt⟩
 free := by
  show upd H D (.lst []) C = none
  rw [AG (Ne.symm hDC)]; exact I.hok.fresh hC
 freeC := fun y c h => by
  have h2 := (S.cell I.ok h).2
  obtain ⟨v, o, ho, _⟩ := I.cell y c h2
  rw [AG (Nat.ne_of_lt (Nat.lt_of_lt_of_le (Heap.lt_size ho) hD))]
  exact I.freeC y c h2
 pin := fun p hp => absurd (show p ∈ ([] : List (Addr × Obj)) from hp) (by simp)
 hok := I.hok.laid k hD ⟨Nat.zero_le _, [], 0, .nil, hd⟩
 len := by
  show (none :: Dt σ ix).length = (x :: caps).length
  rw [List.length_cons, List.length_cons, RD S]
theorem Az.back (S : Az X sc x caps ix) (I : Inv X pins σ H s) {fp : List Addr} {C : Addr} {ps : List (Addr × Obj)} {σ' : St} {H' : Hp} {s' : Shared} {h'' : Heap} (hf : ∀ b ∈ fp, KS X pins H b) (hC : s.heap.objs.size ≤ C)
  (I' : Inv (BS X sc (BL X caps) (x :: caps) C s H fp) ps σ' H' s') (hs : Heap.SameBut C s'.heap h'') : Inv X pins σ H' { s' with heap := h'' } := by
 have J : Inv X pins σ H' s' := I.call' (ch := fp) I'.os I'.base I'.hok I'.bare fun b hb => ⟨(hf b hb).2.2.2.1, (hf b hb).2.1, (hf b hb).2.2.2.2.1, (hf b hb).2.2.2.2.2⟩
 refine J.turned (t' := s'.toks) (it := C) (fun b o hb e => (hs.2 b hb).trans e) I'.free ?_ (.inr (Nat.le_trans I.sz hC)) (fun y c h z => ?_) fun p hp z => ?_
 ·exact Nat.ne_of_gt (Nat.lt_of_lt_of_le I.lt hC)
 ·obtain ⟨v, o, ho, _⟩ := I.cell y c h
  exact absurd (Nat.lt_of_lt_of_le (Heap.lt_size ho) (z ▸ hC)) (Nat.lt_irrefl _)
 ·obtain ⟨e, _⟩ := I.pin p hp
  exact absurd (Nat.lt_of_lt_of_le (Heap.lt_size e) (z ▸ hC)) (Nat.lt_irrefl _)
end
def PTs (X : Cx) (ifs : List Expr) (tc : TT) : Prop :=
 ∀ (pins : List (Addr × Obj)) (s : Shared) (σ : St) (H : Hp) (Q : Bool → Hp → Prop), Inv X pins σ H s → tc σ H Q →
  wpAny (model X.prog X.w) X.A (forIn ifs true fun c r => if r = true then do let ok ← isTrue c X.env (eval c X.env); pure (ForInStep.yield ok) else pure (ForInStep.yield r)) (TP X pins σ Q) X.xe s
def Gc : TT := fun _ H Q => Q true H
theorem GP {X : Cx} : PTs X [] Gc := fun _ _ _ H _ I h => wpAny_tests_nil ⟨H, I, h⟩
theorem Pz {X : Cx} {c : Expr} {t : TT} (h : PT X c t) : PTs X [c] t := fun pins s σ H Q I q => wpAny_tests_one (h pins s σ H Q I q)
def HH (te : TE) (tc : TT) (caps : St) (J : It) (D : Addr) (H1 : Hp) (Q : Hp → Prop) : Prop :=
 ∃ W : Nat → Nat → List V → Hp → Prop, (∃ m, W 0 m [] (upd H1 D (.lst []))) ∧ ∀ i m ys H, W i m ys H →
  (J.stop i H ∧ Q H) ∨ (J.go i H ∧ ∀ v H', J.yld i H v H' → tc (some v :: caps) H' fun b H2 =>
   if b = true then te (some v :: caps) H2 fun y H3 => H3 D = some (.lst ys) ∧ ys.length < sizeLine ∧ ∃ m', m' < m ∧ W (i + 1) m' (ys ++ [y]) (upd H3 D (.lst (ys ++ [y])))
   else ∃ m', m' < m ∧ W (i + 1) m' ys H2)
def Fz (wi : TI) (te : TE) (tc : TT) (ix : List Nat) : TE := fun σ H Q => wi σ H fun J H1 => ∀ D, H1 D = none → HH te tc (Dt σ ix) J D H1 fun H' => Q (.ref D) H'
theorem DH {M : Model} {A : Around} {α : Type} {t : Sem α} {Q : α → Shared → Prop} {E : Value → Shared → Prop} {s : Shared} (h : wpAny M A t Q (fun _ _ => False) s) : wpAny M A t Q E s := wpAny_mono h (fun _ _ q => q) fun _ _ z => z.elim
section
variable {X : Cx} {pins : List (Addr × Obj)} {σ : St} {H : Hp} {s : Shared} {sc : Scope} {x : Str} {caps : List Str} {ix : List Nat}
theorem Kg {elt iter : Expr} {px pos : Pos} {ifs : List Expr} {te : TE} {tc : TT} {J : It} {fp : List Addr} {it : Addr} {tn : Nat → Heap → Prop} {QH : Addr → Hp → Prop} {RR : Value → Addr → Result → Shared → Prop} {E : Value → Shared → Prop}
  (hc : X.calm = true) (S : Az X sc x caps ix) (he : ∀ C s H ex, PE (BS X sc (BL X caps) (x :: caps) C s H ex) elt te) (ht : ∀ C s H ex, PTs (BS X sc (BL X caps) (x :: caps) C s H ex) ifs tc)
  (I : Inv X pins σ H s) (T : QG X.prog X.w X.K (.Name x px) J fp it tn) (st : tn 0 s.heap) (hf : ∀ b ∈ fp, KS X pins H b) (h : ∀ D, H D = none → HH te tc (Dt σ ix) J D H (QH D))
  (hRR : ∀ D C (ps : List (Addr × Obj)) σ' H' s', s.heap.objs.size ≤ C → Inv (BS X sc (BL X caps) (x :: caps) C s H fp) ps σ' H' s' → QH D H' → RR (.ref D) C (.ok .next) s') :
  wpAny (model X.prog X.w) X.A (newList []) (fun acc s₃ => wpAny (model X.prog X.w) X.A (newFunctionEnv sc X.env.globals (BL X caps) [] X.env.qual none .none (some X.env)) (fun cenv s₄ =>
   codeAny (model X.prog X.w) X.A (.compStart (.ListComp elt [⟨.Name x px, iter, ifs, 0⟩] sc pos) 0 (.ref it) acc { cenv with scope := relabel sc X.env }) (RR acc cenv.locals) s₄) E s₃) E s := by
 refine wpAny_newObj_type (wpAny_newFunctionEnv S.nocell (by intro y hy; simp at hy) (fun h₁ hns₁ hsb₁ => ?_) S.kind)
 dsimp only at hns₁ hsb₁ ⊢
 generalize hH2 : s.heap.push { cls := .type "list", dict := none, data := .seq ([] : List Value).toArray } = H2 at hns₁ hsb₁ ⊢
 have hC : H2.objs.size = s.heap.objs.size + 1 := by rw [← hH2, Heap.size_push]
 have hDC : s.heap.objs.size ≠ H2.objs.size := by rw [hC]; exact Nat.ne_of_lt (Nat.lt_succ_self _)
 have hCle : s.heap.objs.size ≤ H2.objs.size := by rw [hC]; exact Nat.le_succ _
 have below : ∀ b, b < s.heap.objs.size → b ≠ H2.objs.size := fun b hb => by rw [hC]; exact Nat.ne_of_lt (Nat.lt_succ_of_lt hb)
 have old : ∀ b o, s.heap.get? b = some o → h₁.get? b = some o := fun b o e => hsb₁.extBut b o (below b (Heap.lt_size e)) (Heap.get?_push_of_some _ (hH2 ▸ Heap.get?_push_of_some _ e))
 have hacc : h₁.get? s.heap.objs.size = some { cls := .type "list", data := .seq #[] 0 } := hsb₁.extBut _ _ hDC (Heap.get?_push_of_some _ (hH2 ▸ Heap.get?_push_size _ rfl))
 have hb : ∀ b ∈ fp, b < s.heap.objs.size := fun b hbf => by obtain ⟨o, e, _⟩ := T.obj _ _ st b hbf; exact Heap.lt_size e
 have I1 := S.start (tk := s.toks + ([] : List (Str × Value)).length) I hf hb (Nat.le_refl _) hCle hDC old hacc hns₁
 obtain ⟨W, ⟨m0, w0⟩, turn⟩ := h _ (I.hok.fresh (Nat.le_refl _))
 have stat : ∀ {H' : Hp}, (∀ b ∈ fp, H' b = none) → ∀ b ∈ fp, KS (BS X sc (BL X caps) (x :: caps) H2.objs.size s H fp) [] H' b := fun {H'} hn b hbf =>
  ⟨hn b hbf, (I1.ok.exf b hbf).1, I1.ok.exfs b hbf, .inl hbf, (I1.ok.exf b hbf).2, fun p hp => absurd (show p ∈ ([] : List (Addr × Obj)) from hp) (by simp)⟩
 have st1 : tn 0 h₁ := T.keep _ _ _ st fun b hbf o e => old b o e
 have fr1 : ∀ b ∈ fp, upd H s.heap.objs.size (.lst []) b = none := fun b hbf => by
  rw [AG (Nat.ne_of_lt (hb b hbf))]; exact (hf b hbf).1
 have loop : ∀ s₃ : Shared, s₃ = { s with heap := h₁, toks := s.toks + ([] : List (Str × Value)).length } →
   codeAny (model X.prog X.w) X.A (.compLoop (.ListComp elt [⟨.Name x px, iter, ifs, 0⟩] sc pos) 0 (.ref it) (.ref s.heap.objs.size) (compEnvC sc (BL X caps) H2.objs.size X.env))
    (RR (.ref s.heap.objs.size) H2.objs.size) s₃ := by
  rintro s₃ rfl
  refine Nq (fun n s' => ∃ i ys H' ov, Inv (BS X sc (BL X caps) (x :: caps) H2.objs.size s H fp) [] (ov :: Dt σ ix) H' s' ∧ tn i s'.heap ∧ (∀ b ∈ fp, H' b = none) ∧ W i n ys H') rfl ?_ m0 ⟨0, [], _, none, I1, st1, fr1, w0⟩
  rintro n s3 ⟨i, ys, H3, ov, I3, st3, fr3, w3⟩
  rcases turn i n ys H3 w3 with ⟨stop, q⟩ | ⟨go, step⟩
  ·refine DH (thn (T.done (BS X sc (BL X caps) (x :: caps) H2.objs.size s H fp) rfl rfl rfl hc i [] s3 _ H3 _ I3 (stat fr3) st3 stop) fun r s4 ⟨hr, I4⟩ => ?_)
   subst hr
   exact hRR _ _ _ _ _ _ hCle I4 q
  ·refine DH (thn (T.item (BS X sc (BL X caps) (x :: caps) H2.objs.size s H fp) rfl rfl rfl hc i [] s3 _ H3 _ I3 (stat fr3) st3 go) fun r s4 ⟨u, hr, h4⟩ => ?_)
   subst hr
   refine DH (thn h4 fun _ s5 ⟨v, H5, I5, r5, y5, st5, fr5⟩ => ?_)
   have I5' := I5.pinned (stat fr5) (T.obj _ _ st5)
   have hg : PG (BS X sc (BL X caps) (x :: caps) H2.objs.size s H fp) (.Name x px) (EO 0) := Pg (i := 0) S.nd rfl (.inl (lookup_relabel_local S.hx)) (.inr (lookup_relabel_local S.hx))
   have again : ∀ {s7 : Shared} {H7 : Hp} {ys' : List V}, Inv (BS X sc (BL X caps) (x :: caps) H2.objs.size s H fp) ([] ++ LD fp s5.heap) (some v :: Dt σ ix) H7 s7 → (∃ m', m' < n ∧ W (i + 1) m' ys' H7) →
     ∃ m, m < n ∧ ∃ i ys H' ov, Inv (BS X sc (BL X caps) (x :: caps) H2.objs.size s H fp) [] (ov :: Dt σ ix) H' s7 ∧ tn i s7.heap ∧ (∀ b ∈ fp, H' b = none) ∧ W i m ys H' := fun {s7 H7 ys'} I7 ⟨m', hm, w7⟩ => by
    refine ⟨m', hm, i + 1, ys', H7, some v, I7.unpinned, T.keep _ _ _ st5 fun b hb o e => (I7.pin (b, o) (List.mem_append_right _ (List.mem_append_right _ (E3 hb e)))).1, fun b hb => ?_, w7⟩
    obtain ⟨o, e, d⟩ := T.obj _ _ st5 b hb
    exact (I7.pin (b, o) (List.mem_append_right _ (List.mem_append_right _ (E3 hb e)))).2.1
   refine DH (thn (hg _ s5 _ H5 v u (fun σ' H' => σ' = some v :: Dt σ ix ∧ H' = H5) I5' r5 ⟨rfl, rfl⟩) fun _ s6 ⟨σ6, H6, I6, e6, e6'⟩ => ?_)
   subst e6 e6'
   refine DH (thn (ht _ _ _ _ _ s6 _ H6 _ I6 (step v H6 y5)) fun ok s7 ⟨H7, I7, q7⟩ => ?_)
   cases ok with
   | false => exact again I7 (by simpa using q7)
   | true =>
    rw [if_pos rfl] at q7
    rw [if_pos rfl]
    refine DH (thn (he _ _ _ _ _ s7 _ H7 _ I7 q7) fun yv s8 ⟨y, H8, I8, r8, hD8, hz8, q8⟩ => ?_)
    refine DH (thn (Mz _ s8 _ H8 (.ref s.heap.objs.size) [y] _ [yv] (fun _ H9 => H9 = upd H8 s.heap.objs.size (.lst (ys ++ [y]))) I8 rfl (.cons r8 .nil) ⟨_, _, _, rfl, rfl, hD8, hz8, rfl⟩) fun _ s9 ⟨_, H9, I9, _, e9⟩ => ?_)
    subst e9
    exact again I9 q8
 exact codeAny_compStart_list (loop _ rfl) (T.self _ 0 _ _ _ st1 (loop _ rfl))
theorem turnC (I : Inv X pins σ H s) {C : Addr} (hC : s.heap.objs.size ≤ C) {σ2 : St} {H' : Hp} {s'' : Shared} {h'' : Heap} (J : Inv X pins σ2 H' s'') (hn : H' C = none) (hs : Heap.SameBut C s''.heap h'') : Inv X pins σ2 H' { s'' with heap := h'' } := by
 refine J.turned (t' := s''.toks) (it := C) (fun b o hb e => (hs.2 b hb).trans e) hn ?_ (.inr (Nat.le_trans I.sz hC)) (fun y c h z => ?_) fun p hp z => ?_
 ·exact Nat.ne_of_gt (Nat.lt_of_lt_of_le I.lt hC)
 ·obtain ⟨v, o, ho, _⟩ := I.cell y c h
  exact absurd (Nat.lt_of_lt_of_le (Heap.lt_size ho) (z ▸ hC)) (Nat.lt_irrefl _)
 ·obtain ⟨e, _⟩ := I.pin p hp
  exact absurd (Nat.lt_of_lt_of_le (Heap.lt_size e) (z ▸ hC)) (Nat.lt_irrefl _)
theorem IJ {elt iter : Expr} {px pos : Pos} {ifs : List Expr} {wi : TI} {te : TE} {tc : TT} (hc : X.calm = true) (S : Az X sc x caps ix) (hi : PI X (.Name x px) iter wi)
  (he : ∀ C s H ex, PE (BS X sc (BL X caps) (x :: caps) C s H ex) elt te) (ht : ∀ C s H ex, PTs (BS X sc (BL X caps) (x :: caps) C s H ex) ifs tc)
  (hs : ∀ x, foldedSetIterable iter X.env x = pure x := by intro _; rfl) : PE X (.ListComp elt [⟨.Name x px, iter, ifs, 0⟩] sc pos) (Fz wi te tc ix) := by
 intro pins s σ H Q I h
 rw [eval_ListComp]
 refine wpAny_comprehension_free (use := none) rfl hs S.clos S.kind S.names (thn (hi pins s σ H _ I h) fun v s1 h1 => thn h1 fun itv s2 h2 => ?_)
 obtain ⟨it, fp, tn, J, H2, e, I2, T, st2, f2, q⟩ := h2
 subst e
 refine Kg (RR := fun acc C => compPost (model X.prog X.w) X.A X.xe none (EP X pins σ Q) acc C) (QH := fun D H' => Q (.ref D) H') hc S he ht I2 T st2 f2 q ?_
 intro D C ps σ' H' s' hC I' hq
 obtain ⟨m, hn, _⟩ := I'.loc
 exact ⟨m, hn, fun h'' hs => ⟨.ref D, H', S.back I2 f2 hC I' hs, rfl, hq⟩⟩
theorem HV {i : Nat} {y : Str} {py spos : Pos} {elt iter : Expr} {px pos : Pos} {ifs : List Expr} {wi : TI} {te : TE} {tc : TT} (hc : X.calm = true) (nd : X.N.Nodup) (hy : X.N[i]? = some y) (hl : Loc X.env.scope y) (S : Az X sc x caps ix) (hi : PI X (.Name x px) iter wi)
  (he : ∀ C s H ex, PE (BS X sc (BL X caps) (x :: caps) C s H ex) elt te) (ht : ∀ C s H ex, PTs (BS X sc (BL X caps) (x :: caps) C s H ex) ifs tc)
  (hsw : swapsWith (.ListComp elt [⟨.Name x px, iter, ifs, 0⟩] sc pos) (some (.Name y py)) spos.line X.env = pure true := by rfl)
  (hs : ∀ x, foldedSetIterable iter X.env x = pure x := by intro _; rfl) (hf : X.fn y = true ∨ X.env.scope.names.lookup y = some .local := by first | exact .inl rfl | exact .inr rfl | assumption) :
  PS X (.Assign [.Name y py] (.ListComp elt [⟨.Name x px, iter, ifs, 0⟩] sc pos) spos) (Lz (Fz wi te tc ix) (EO i)) := by
 intro pins s σ H D I h
 rw [exec_Assign_Name_used _ _ _ _ hsw]
 refine wpAny_bind (wpAny_standAt (wpAny_bind ?_))
 show wpAny _ X.A (do let _ ← comprehension (.ListComp elt [⟨.Name x px, iter, ifs, 0⟩] sc pos) sc X.env _ (newList []) false (eval iter X.env) (some (assign (.Name y py) X.env))) _ _ s
 refine wpAny_bind (wpAny_mono (wpAny_comprehension_free (use := some (assign (.Name y py) X.env)) (Q := fun _ s' => SP X pins D .next s') rfl hs S.clos S.kind S.names
  (thn (hi pins s σ H _ I h) fun v s1 h1 => thn h1 fun itv s2 h2 => ?_)) (fun _ s' hq => wpAny_pure (wpAny_pure hq)) fun _ _ e => e)
 obtain ⟨it, fp, tn, J, H2, e, I2, T, st2, f2, q⟩ := h2
 subst e
 refine Kg (RR := fun acc C => compPost (model X.prog X.w) X.A X.xe (some (assign (.Name y py) X.env)) (fun _ s' => SP X pins D .next s') acc C) (QH := fun L H' => D.nx (σ.set i (some (.ref L))) H') hc S he ht I2 T st2 f2 q ?_
 intro L C ps σ' H' s' hC I' hq
 show wpAny _ X.A (assign (.Name y py) X.env (.ref L)) _ _ s'
 have J := S.back I2 f2 hC I' (Heap.SameBut.refl ..)
 refine wpAny_assign_Name (ML (v := .ref L) (u := .ref L) J nd hy hl rfl (fun s'' I'' ⟨a, hsb, ha⟩ => ?_) hf)
 obtain ⟨m, hn, _⟩ := I'.loc
 have haC : C ≠ a := by
  rcases ha with z | z
  ·rw [z]; exact Nat.ne_of_gt (Nat.lt_of_lt_of_le I2.lt hC)
  ·obtain ⟨v, o, ho, _⟩ := I2.cell y a z
   exact Nat.ne_of_gt (Nat.lt_of_lt_of_le (Heap.lt_size ho) hC)
 exact ⟨m, hn.sameBut hsb haC, fun h'' hs'' => ⟨_, H', turnC I2 hC I'' I'.free hs'', hq⟩⟩
end
def OW (n i : Nat) (ys : List V) (D : Addr) (Pv : Nat → List V → Hp → Prop) (y : V) (H3 : Hp) : Prop :=
 H3 D = some (.lst ys) ∧ ys.length < sizeLine ∧ ∃ m', m' < n - i ∧ m' = n - (i + 1) ∧ i + 1 ≤ n ∧ (ys ++ [y]).length = i + 1 ∧ Pv (i + 1) (ys ++ [y]) (upd H3 D (.lst (ys ++ [y])))
theorem OW.of {n i : Nat} {ys : List V} {D : Addr} {Pv : Nat → List V → Hp → Prop} {y : V} {H3 : Hp} (hn : n ≤ sizeLine) (hi : i < n) (hl : ys.length = i) (h1 : H3 D = some (.lst ys)) (h2 : Pv (i + 1) (ys ++ [y]) (upd H3 D (.lst (ys ++ [y])))) : OW n i ys D Pv y H3 :=
 ⟨h1, by omega, _, by omega, rfl, hi, by rw [List.length_append, hl]; rfl, h2⟩
theorem Mq {K : PySem.W.Frag} {a : Addr} {xs : List V} {te : TE} {caps : St} {D : Addr} {H1 : Hp} {Q : Hp → Prop} (Pv : Nat → List V → Hp → Prop) (h0 : Pv 0 [] (upd H1 D (.lst []))) (hl : ∀ i ys H, i ≤ xs.length → Pv i ys H → SqL K H a xs)
  (hs : ∀ i x ys H, xs[i]? = some x → ys.length = i → Pv i ys H → te (some x :: caps) H (OW xs.length i ys D Pv))
  (hd : ∀ ys H, ys.length = xs.length → Pv xs.length ys H → Q H) : HH te Gc caps (Itl K a) D H1 Q := by
 refine ⟨fun i m ys H => m = xs.length - i ∧ i ≤ xs.length ∧ ys.length = i ∧ Pv i ys H, ⟨xs.length, rfl, Nat.zero_le _, rfl, h0⟩, ?_⟩
 rintro i m ys H ⟨rfl, hi, hy, p⟩
 have q := hl i ys H hi p
 by_cases hlt : i < xs.length
 ·refine .inr ⟨⟨xs, xs[i], q, by simp [hlt]⟩, fun v H' y => ?_⟩
  obtain ⟨e, y⟩ := y
  subst e
  unfold Gc
  dsimp only
  rw [if_pos rfl]
  exact hs i v ys _ (y xs q) hy p
 ·have e : i = xs.length := by omega
  subst e
  exact .inl ⟨⟨xs, q, by simp⟩, hd ys H hy p⟩
theorem C5 {K : PySem.W.Frag} {a : Addr} {xs : List V} {te : TE} {tc : TT} {caps : St} {D : Addr} {H1 : Hp} {Q : Hp → Prop} (Pv : Nat → List V → Hp → Prop) (h0 : Pv 0 [] (upd H1 D (.lst []))) (hl : ∀ i ys H, i ≤ xs.length → Pv i ys H → SqL K H a xs)
  (hs : ∀ i x ys H, xs[i]? = some x → Pv i ys H → tc (some x :: caps) H fun b H2 =>
   if b = true then te (some x :: caps) H2 fun y H3 => H3 D = some (.lst ys) ∧ ys.length < sizeLine ∧ ∃ m', m' < xs.length - i ∧ m' = xs.length - (i + 1) ∧ i + 1 ≤ xs.length ∧ Pv (i + 1) (ys ++ [y]) (upd H3 D (.lst (ys ++ [y])))
   else ∃ m', m' < xs.length - i ∧ m' = xs.length - (i + 1) ∧ i + 1 ≤ xs.length ∧ Pv (i + 1) ys H2)
  (hd : ∀ ys H, Pv xs.length ys H → Q H) : HH te tc caps (Itl K a) D H1 Q := by
 refine ⟨fun i m ys H => m = xs.length - i ∧ i ≤ xs.length ∧ Pv i ys H, ⟨xs.length, rfl, Nat.zero_le _, h0⟩, ?_⟩
 rintro i m ys H ⟨rfl, hi, p⟩
 have q := hl i ys H hi p
 by_cases hlt : i < xs.length
 ·refine .inr ⟨⟨xs, xs[i], q, by simp [hlt]⟩, fun v H' y => ?_⟩
  obtain ⟨e, y⟩ := y
  subst e
  exact hs i v ys _ (y xs q) p
 ·have e : i = xs.length := by omega
  subst e
  exact .inl ⟨⟨xs, q, by simp⟩, hd ys H p⟩
theorem AH.updFresh {H H3 : Hp} {D : Addr} {o : HO} (s : AH H H3) (hD : H D = none) : AH H (L2.upd H3 D o) := fun b u e => by
 rw [AG (AI e hD)]; exact s b u e
end L2
set_option Elab.async false
set_option linter.all false
set_option maxRecDepth 100000
set_option maxHeartbeats 4000000
namespace L2
open PySem PySem.W PyProof.Rows
def KOk (n : Nat) (lt : Nat → Nat → Bool) {α : Type} : KasT α → (α → Prop) → Prop
 | .ret a, Q => Q a
 | .ask i j k, Q => i < n ∧ j < n ∧ KOk n lt (k (lt i j)) Q
theorem KOk.bind {n : Nat} {lt : Nat → Nat → Bool} {α β : Type} {f : α → KasT β} {Q : β → Prop} : ∀ {t : KasT α}, KOk n lt t (fun a => KOk n lt (f a) Q) → KOk n lt (t.bind f) Q
 | .ret _, h => h
 | .ask _ _ k, h => ⟨h.1, h.2.1, KOk.bind (t := k _) h.2.2⟩
theorem KOk.mono {n : Nat} {lt : Nat → Nat → Bool} {α : Type} {Q Q' : α → Prop} (hq : ∀ a, Q a → Q' a) : ∀ {t : KasT α}, KOk n lt t Q → KOk n lt t Q'
 | .ret _, h => hq _ h
 | .ask _ _ k, h => ⟨h.1, h.2.1, KOk.mono hq (t := k _) h.2.2⟩
theorem KOk.wp {n : Nat} {lt : Nat → Nat → Bool} {α : Type} {cmp : Nat → Nat → (Bool → Shared → Prop) → Shared → Prop} {Q : α → Shared → Prop} {s : Shared} (hc : ∀ i j C, i < n → j < n → C (lt i j) s → cmp i j C s) : ∀ {t : KasT α}, KOk n lt t (fun a => Q a s) → t.kasWp cmp Q s
 | .ret _, h => h
 | .ask i j k, h => hc i j _ h.1 h.2.1 (KOk.wp hc (t := k _) h.2.2)
structure STO (n : Nat) (lt : Nat → Nat → Bool) : Prop where
 tri : ∀ i j, i < n → j < n → i ≠ j → lt i j = true ∨ lt j i = true
 asym : ∀ i j, lt i j = true → lt j i = false
 trans : ∀ i j k, lt i j = true → lt j k = true → lt i k = true
section
variable {n : Nat} {lt : Nat → Nat → Bool} {p : Array Nat}
def at0 (p : Array Nat) (i : Nat) : Nat := p.getD i 0
structure PR (n : Nat) (p : Array Nat) : Prop where
 pm : p.Perm (List.range n).toArray
theorem PR.size (h : PR n p) : p.size = n := by simpa using h.pm.size_eq
theorem PR.bd (h : PR n p) {i : Nat} (hi : i < n) : at0 p i < n := by
 have hs := h.size
 have hm : p[i]'(by omega) ∈ p := Array.getElem_mem _
 have := (h.pm.mem_iff).mp hm
 have e : at0 p i = p[i]'(by omega) := by unfold at0; rw [Array.getD_eq_getD_getElem?, Array.getElem?_eq_getElem (by omega)]; rfl
 rw [e]
 simpa using this
theorem PR.inj (h : PR n p) {i j : Nat} (hi : i < n) (hj : j < n) (e : at0 p i = at0 p j) : i = j := by
 have hs := h.size
 have hnd : p.toList.Nodup := by
  have hp : p.toList.Perm (List.range n) := by simpa using Array.perm_iff_toList_perm.mp h.pm
  exact hp.nodup_iff.mpr List.nodup_range
 have ei : at0 p i = p.toList[i]'(by simpa using (by omega : i < p.size)) := by unfold at0; rw [Array.getD_eq_getD_getElem?, Array.getElem?_eq_getElem (by omega)]; simp
 have ej : at0 p j = p.toList[j]'(by simpa using (by omega : j < p.size)) := by unfold at0; rw [Array.getD_eq_getD_getElem?, Array.getElem?_eq_getElem (by omega)]; simp
 rw [ei, ej] at e
 exact (List.getElem_inj hnd).mp e
def Srt (lt : Nat → Nat → Bool) (p : Array Nat) (k : Nat) : Prop := ∀ i, i + 1 < k → lt (at0 p i) (at0 p (i + 1)) = true
def Dsc (lt : Nat → Nat → Bool) (p : Array Nat) (k : Nat) : Prop := ∀ i, i + 1 < k → lt (at0 p (i + 1)) (at0 p i) = true
theorem Srt.all (S : STO n lt) {k : Nat} (h : Srt lt p k) : ∀ {i j : Nat}, i < j → j < k → lt (at0 p i) (at0 p j) = true := by
 intro i j hij hj
 induction j with
 | zero => omega
 | succ j ih =>
  by_cases e : i = j
  ·subst e; exact h i hj
  ·exact S.trans _ _ _ (ih (by omega) (by omega)) (h j hj)
theorem Pa (S : STO n lt) (hp : PR n p) : ∀ (f a : Nat), 1 ≤ a → a + f ≤ n → Srt lt p a → KOk n lt (kas_asc p f a) (fun m => a ≤ m ∧ m ≤ a + f ∧ Srt lt p m ∧ (m < a + f → lt (at0 p m) (at0 p (m - 1)) = true))
 | 0, a, h1, h2, hs => ⟨Nat.le_refl _, Nat.le_refl _, hs, fun h => by omega⟩
 | f + 1, a, h1, h2, hs => by
  refine ⟨hp.bd (i := a) (by omega), hp.bd (i := a - 1) (by omega), ?_⟩
  cases c : lt (p.getD a 0) (p.getD (a - 1) 0) with
  | true => exact ⟨Nat.le_refl _, by omega, hs, fun _ => c⟩
  | false =>
   have hs' : Srt lt p (a + 1) := fun i hi => by
    by_cases e : i + 1 = a
    ·have e' : i = a - 1 := by omega
     subst e'
     rcases S.tri (at0 p (a - 1)) (at0 p a) (hp.bd (by omega)) (hp.bd (by omega)) (fun z => by have := hp.inj (by omega) (by omega) z; omega) with z | z
     ·rw [show a - 1 + 1 = a by omega]; exact z
     ·have z' : lt (p.getD a 0) (p.getD (a - 1) 0) = true := z
      rw [c] at z'; cases z'
    ·exact hs i (by omega)
   refine KOk.mono (fun m hm => ?_) (Pa S hp f (a + 1) (by omega) (by omega) hs')
   exact ⟨by omega, by omega, hm.2.2.1, fun h => hm.2.2.2 (by omega)⟩
theorem Pt (S : STO n lt) (hp : PR n p) : ∀ (f a : Nat), 1 ≤ a → a + f ≤ n → Dsc lt p a → KOk n lt (kas_desc f p a 0) (fun r => r.1 = p ∧ r.2.2 = 0 ∧ a ≤ r.2.1 ∧ r.2.1 ≤ a + f ∧ Dsc lt p r.2.1)
 | 0, a, h1, h2, hs => ⟨rfl, rfl, Nat.le_refl _, Nat.le_refl _, hs⟩
 | f + 1, a, h1, h2, hs => by
  refine ⟨hp.bd (i := a) (by omega), hp.bd (i := a - 1) (by omega), ?_⟩
  cases c : lt (p.getD a 0) (p.getD (a - 1) 0) with
  | true =>
   dsimp only
   rw [if_pos rfl, if_neg (by omega)]
   have hs' : Dsc lt p (a + 1) := fun i hi => by
    by_cases e : i + 1 = a
    ·have e' : i = a - 1 := by omega
     subst e'
     rw [show a - 1 + 1 = a by omega]; exact c
    ·exact hs i (by omega)
   refine KOk.mono (fun m hm => ?_) (Pt S hp f (a + 1) (by omega) (by omega) hs')
   exact ⟨hm.1, hm.2.1, by omega, by omega, hm.2.2.2.2⟩
  | false =>
   dsimp only
   rw [if_neg (by simp)]
   refine ⟨hp.bd (i := a - 1) (by omega), hp.bd (i := a) (by omega), ?_⟩
   have d : lt (p.getD (a - 1) 0) (p.getD a 0) = true := by
    rcases S.tri (at0 p (a - 1)) (at0 p a) (hp.bd (by omega)) (hp.bd (by omega)) (fun z => by have := hp.inj (by omega) (by omega) z; omega) with z | z
    ·exact z
    ·have z' : lt (p.getD a 0) (p.getD (a - 1) 0) = true := z
     rw [c] at z'; cases z'
   rw [d]
   dsimp only
   rw [if_pos rfl]
   exact ⟨rfl, rfl, Nat.le_refl _, Nat.le_add_right _ _, hs⟩
theorem Qz (hp : PR n p) {m k : Nat} (hm : m ≤ n) (hk : k < m) : at0 (kas_rev p 0 m) k = at0 p (m - 1 - k) := by
 have hs := hp.size
 unfold at0 kas_rev
 rw [Array.getD_eq_getD_getElem?, Array.getD_eq_getD_getElem?, getElem?_mirror_all (by omega), if_pos ⟨by omega, hk⟩]
 rw [show 0 + m - 1 - k = m - 1 - k by omega]
theorem UP (S : STO n lt) (hp : PR n p) {m : Nat} (hm : m ≤ n) (h : Dsc lt p m) : PR n (kas_rev p 0 m) ∧ Srt lt (kas_rev p 0 m) m := by
 refine ⟨⟨(mirror_perm ..).trans hp.pm⟩, fun i hi => ?_⟩
 rw [Qz hp hm (by omega), Qz hp hm (by omega)]
 have := h (m - 1 - (i + 1)) (by omega)
 rw [show m - 1 - (i + 1) + 1 = m - 1 - i by omega] at this
 exact this
theorem SC (S : STO n lt) (hp : PR n p) {m : Nat} (h1 : 1 ≤ m) (hm : m ≤ n) (h : Dsc lt p m) : KOk n lt (kas_tail3 m n p) (fun r => PR n r.2 ∧ r.1 ≤ n ∧ 1 ≤ r.1 ∧ Srt lt r.2 r.1) := by
 obtain ⟨hp', hs⟩ := UP S hp hm h
 refine KOk.bind (KOk.mono (fun k hk => ?_) (Pa S hp' (n - m) m h1 (by omega) hs))
 exact ⟨hp', by omega, by omega, hk.2.2.1⟩
theorem Nx (S : STO n lt) (hp : PR n p) (h2 : 2 ≤ n) (h : lt (at0 p 1) (at0 p 0) = true) : KOk n lt (kas_descPart 1 n p) (fun r => PR n r.2 ∧ r.1 ≤ n ∧ 1 ≤ r.1 ∧ Srt lt r.2 r.1) := by
 have hs : Dsc lt p 2 := fun i hi => by
  have e : i = 0 := by omega
  subst e; exact h
 refine KOk.bind (KOk.mono (fun r hr => ?_) (Pt S hp (n - (1 + 1)) (1 + 1) (by omega) (by omega) hs))
 obtain ⟨e1, e2, h3, h4, h5⟩ := hr
 rw [e2, if_neg (by omega), e1]
 exact SC S hp (by omega) (by omega) h5
theorem Rg (S : STO n lt) (hp : PR n p) (h2 : 2 ≤ n) : KOk n lt (kas_count n p) (fun r => PR n r.2 ∧ r.1 ≤ n ∧ 1 ≤ r.1 ∧ Srt lt r.2 r.1) := by
 refine KOk.bind (KOk.mono (fun m hm => ?_) (Pa S hp (n - 1) 1 (Nat.le_refl _) (by omega) (fun i hi => by omega)))
 obtain ⟨m1, m2, hs, hstop⟩ := hm
 by_cases e : m = n
 ·rw [if_pos (by simp [e])]
  exact ⟨hp, by omega, m1, hs⟩
 ·rw [if_neg (by simp [e])]
  by_cases e1 : m > 1
  ·rw [if_pos e1]
   refine ⟨hp.bd (i := 0) (by omega), hp.bd (i := m - 1) (by omega), ?_⟩
   have c : lt (p.getD 0 0) (p.getD (m - 1) 0) = true := Srt.all S hs (i := 0) (j := m - 1) (by omega) (by omega)
   rw [c]
   dsimp only
   rw [if_pos rfl]
   exact ⟨hp, by omega, m1, hs⟩
  ·rw [if_neg e1]
   have e2 : m = 1 := by omega
   subst e2
   exact Nx S hp h2 (hstop (by omega))
theorem Ki (S : STO n lt) (hp : PR n p) {k : Nat} (hk : k < n) (hs : Srt lt p k) : ∀ (f l r : Nat), r - l ≤ f → l ≤ r → r ≤ k → (∀ i, i < l → lt (at0 p i) (at0 p k) = true) → (∀ i, r ≤ i → i < k → lt (at0 p k) (at0 p i) = true) →
  KOk n lt (kas_place p k f l r) (fun l => l ≤ k ∧ (∀ i, i < l → lt (at0 p i) (at0 p k) = true) ∧ ∀ i, l ≤ i → i < k → lt (at0 p k) (at0 p i) = true)
 | 0, l, r, h1, h2, h3, h4, h5 => ⟨by omega, h4, fun i hi hik => h5 i (by omega) hik⟩
 | f + 1, l, r, h1, h2, h3, h4, h5 => by
  unfold kas_place
  by_cases e : l ≥ r
  ·rw [if_pos e]
   exact ⟨by omega, h4, fun i hi hik => h5 i (by omega) hik⟩
  ·rw [if_neg e]
   refine ⟨hp.bd (i := k) hk, hp.bd (i := (l + r) / 2) (by omega), ?_⟩
   have hmid : (l + r) / 2 < r ∧ l ≤ (l + r) / 2 := by omega
   cases c : lt (p.getD k 0) (p.getD ((l + r) / 2) 0) with
   | true =>
    dsimp only
    rw [if_pos rfl]
    refine Ki S hp hk hs f l ((l + r) / 2) (by omega) (by omega) (by omega) h4 fun i hi hik => ?_
    by_cases e2 : i = (l + r) / 2
    ·subst e2; exact c
    ·exact S.trans _ _ _ c (Srt.all S hs (by omega) hik)
   | false =>
    dsimp only
    rw [if_neg (by simp)]
    have d : lt (at0 p ((l + r) / 2)) (at0 p k) = true := by
     rcases S.tri (at0 p ((l + r) / 2)) (at0 p k) (hp.bd (by omega)) (hp.bd hk) (fun z => by have := hp.inj (by omega) hk z; omega) with z | z
     ·exact z
     ·have z' : lt (p.getD k 0) (p.getD ((l + r) / 2) 0) = true := z
      rw [c] at z'; cases z'
    refine Ki S hp hk hs f ((l + r) / 2 + 1) r (by omega) (by omega) h3 (fun i hi => ?_) h5
    by_cases e2 : i = (l + r) / 2
    ·subst e2; exact d
    ·exact S.trans _ _ _ (Srt.all S hs (i := i) (j := (l + r) / 2) (by omega) (by omega)) d
theorem M7 (hp : PR n p) {k l j : Nat} (hk : k < n) (hl : l ≤ k) : at0 (bubble p k (k - l)) j = if j = l then at0 p k else if l < j ∧ j ≤ k then at0 p (j - 1) else at0 p j := by
 have hs := hp.size
 unfold at0
 rw [Array.getD_eq_getD_getElem?, getElem?_bubble (by omega) (k - l) (by omega) j, show k - (k - l) = l by omega]
 repeat' split
 all_goals rw [Array.getD_eq_getD_getElem?]
theorem Q4 (S : STO n lt) : ∀ (f k : Nat) (p : Array Nat), PR n p → k + f = n → Srt lt p k → KOk n lt (kas_bin f p k) (fun q => PR n q ∧ Srt lt q n)
 | 0, k, p, hp, hk, hs => by
  have e : k = n := by omega
  subst e
  exact ⟨hp, hs⟩
 | f + 1, k, p, hp, hk, hs => by
  refine KOk.bind (KOk.mono (fun l hl => ?_) (Ki S hp (by omega) hs k 0 k (by omega) (by omega) (Nat.le_refl _) (fun i hi => by omega) (fun i h1 h2 => by omega)))
  obtain ⟨h1, h2, h3⟩ := hl
  refine Q4 S f (k + 1) _ ⟨(bubble_perm ..).trans hp.pm⟩ (by omega) fun i hi => ?_
  rw [M7 hp (by omega) h1, M7 hp (by omega) h1]
  by_cases c1 : i + 1 < l
  ·rw [if_neg (by omega), if_neg (by omega), if_neg (by omega), if_neg (by omega)]
   exact hs i (by omega)
  ·by_cases c2 : i + 1 = l
   ·rw [if_neg (by omega), if_neg (by omega), if_pos c2]
    exact h2 i (by omega)
   ·by_cases c3 : i = l
    ·rw [if_pos c3, if_neg (by omega), if_pos (by omega), show i + 1 - 1 = i by omega]
     exact h3 i (by omega) (by omega)
    ·rw [if_neg c3, if_pos (by omega), if_neg (by omega), if_pos (by omega), show i + 1 - 1 = i by omega]
     have := hs (i - 1) (by omega)
     rw [show i - 1 + 1 = i by omega] at this
     exact this
theorem Ss (S : STO n lt) (h2 : 2 ≤ n) : KOk n lt (kas_sort n) (fun q => PR n q ∧ Srt lt q n) := by
 refine KOk.bind (KOk.mono (fun r hr => ?_) (Rg S ⟨Array.Perm.refl _⟩ h2))
 obtain ⟨h1, h3, h4, h5⟩ := hr
 by_cases e : r.1 < n
 ·rw [if_pos e, show max r.1 1 = r.1 by omega]
  exact Q4 S _ _ _ h1 (by omega) h5
 ·rw [if_neg e]
  exact ⟨h1, by have e2 : r.1 = n := by omega
                rw [← e2]; exact h5⟩
end
section
variable {prog : Program} {w : World} {A : Around} {E : Value → Shared → Prop} {s : Shared}
def DZ (vs : List Value) (p : Array Nat) : List Value := p.toList.map fun i => vs.getD i Value.none
theorem QF {vs : List Value} {p : Array Nat} (hp : PR vs.length p) : (DZ vs p).length = vs.length := by
 unfold DZ; rw [List.length_map, Array.length_toList, hp.size]
theorem Jr {vs : List Value} (h : vs.length < 2) : DZ vs (List.range vs.length).toArray = vs := by
 match vs, h with
 | [], _ => rfl
 | [_], _ => rfl
theorem S9 (vs : List Value) : (vs.toArray.zip vs.toArray).map (·.2) = vs.toArray := by
 apply Array.toList_inj.mp
 rw [Array.toList_map, Array.toList_zip]
 exact List.map_snd_zip (Nat.le_refl _)
theorem RS {a : Addr} {vs : List Value} {n : Nat} {lt : Nat → Nat → Bool} {P : PySem.Fin → Shared → Prop} (ho : s.heap.get? a = some (seqObj "list" vs.toArray n)) (S : STO vs.length lt) (h64 : vs.length < 64)
  (hc : 2 ≤ vs.length → ∀ h' : Heap, (∀ b o, b ≠ a → s.heap.get? b = some o → h'.get? b = some o) → ∃ κ : SortKind,
   (∀ (R : SortKind → Shared → Prop), R κ { s with heap := h' } → wpAny (model prog w) A (keyKind' vs.toArray) R (fun _ _ => False) { s with heap := h' }) ∧
   ∀ i j (C : Bool → Shared → Prop), i < vs.length → j < vs.length → C (lt i j) { s with heap := h' } → wpAny (model prog w) A (keyLt' κ (vs.getD i Value.none) (vs.getD j Value.none)) C (fun _ _ => False) { s with heap := h' })
  (h : ∀ (h' : Heap) (p : Array Nat) (c : Nat), (∀ b o, b ≠ a → s.heap.get? b = some o → h'.get? b = some o) → h'.get? a = some (seqObj "list" (DZ vs p).toArray c) → PR vs.length p → Srt lt p vs.length → P (.done (.ret .none)) { s with heap := h' }) :
  wpAny (model prog w) A (Builtin.«list.sort» ⟨[.ref a], []⟩) P E s := by
 have ha : a < s.heap.objs.size := Heap.lt_size ho
 have s1 := Heap.SameBut.update s.heap a (Obj.mapSeq fun _ => (#[] : Array Value))
 obtain ⟨e1, ho1⟩ : ∃ e1, (s.heap.update a (Obj.mapSeq fun _ => (#[] : Array Value))).get? a = some (seqObj "list" #[] e1) := ⟨_, get?_update_seq ho fun _ => #[]⟩
 rw [list_sort_plain]
 refine wpAny_bind (listItems_at ho rfl ?_)
 refine wpAny_bind (listUpdate_at ho rfl ?_ (by rw [List.size_toArray, sizeLine_eq]; omega) (Nat.zero_le _))
 refine wpAny_bind (seqEpoch_at ho1 rfl ?_)
 refine wpAny_bind (wpAny_newTuple ?_ (by show vs.length ≤ _; rw [sizeLine_eq]; omega))
 refine wpAny_bind (wpAny_newList ?_ (Nat.zero_le _))
 refine wpAny_holding ?_
 generalize hH : ((s.heap.update a (Obj.mapSeq fun _ => (#[] : Array Value))).push (seqObj "tuple" vs.toArray 0)).push (seqObj "list" #[] 0) = H3
 show wpAny (model prog w) A _ P E { s with heap := H3 }
 dsimp only
 have keep3 : ∀ b o, b ≠ a → s.heap.get? b = some o → H3.get? b = some o := fun b o hb e => by
  rw [← hH]; exact Heap.get?_push_of_some _ (Heap.get?_push_of_some _ ((s1.2 b hb).trans e))
 have at3 : H3.get? a = some (seqObj "list" #[] e1) := by rw [← hH]; exact Heap.get?_push_of_some _ (Heap.get?_push_of_some _ ho1)
 have fin : ∀ (p : Array Nat), PR vs.length p → Srt lt p vs.length → P (.done (.ret .none)) { s with heap := H3.update a (Obj.mapSeq fun _ => (DZ vs p).toArray) } := fun p hp hs => by
  obtain ⟨c2, hc2⟩ : ∃ c2, (H3.update a (Obj.mapSeq fun _ => (DZ vs p).toArray)).get? a = some (seqObj "list" (DZ vs p).toArray c2) := ⟨_, get?_update_seq at3 fun _ => (DZ vs p).toArray⟩
  exact h _ p c2 (fun b o hb e => ((Heap.SameBut.update H3 a _).2 b hb).trans (keep3 b o hb e)) hc2 hp hs
 by_cases h2 : vs.toArray.size < 2
 ·rw [if_pos h2, if_pos h2]
  have hl2 : vs.length < 2 := by simpa using h2
  refine wpAny_bind (wpAny_pure ?_)
  rw [StateT.run_pure]
  refine wpAny_bind (wpAny_pure ?_)
  dsimp only
  refine wpAny_bind (seqEpoch_at at3 rfl ?_)
  have ez : ((vs.toArray.zip vs.toArray).map (·.2)) = (DZ vs (List.range vs.length).toArray).toArray := by
   rw [Jr hl2]
   exact S9 vs
  show wpAny _ _ (Builtin.List.listUpdate (.ref a) (fun _ => (vs.toArray.zip vs.toArray).map (·.2)) >>= _) _ _ _
  rw [ez]
  refine wpAny_bind (listUpdate_at at3 rfl ?_ (Nat.zero_le _) (by show (DZ vs (List.range vs.length).toArray).toArray.size ≤ _; rw [Jr hl2, List.size_toArray, sizeLine_eq]; omega))
  simp only [bne_self_eq_false, Bool.false_eq_true, if_false]
  exact wpAny_pure (fin _ ⟨Array.Perm.refl _⟩ fun i hi => by omega)
 ·rw [if_neg h2, if_neg h2]
  have hl2 : 2 ≤ vs.length := by simpa using h2
  obtain ⟨κ, k1, k2⟩ := hc hl2 H3 keep3
  refine wpAny_bind (wpAny_mono (k1 (fun κ' s' => κ' = κ ∧ s' = { s with heap := H3 }) ⟨rfl, rfl⟩) ?_ fun _ _ x => x.elim)
  rintro κ' s' ⟨rfl, rfl⟩
  refine wpAny_bind (wpAny_mono (kat_run (Q := fun st' s' => ∃ p : Array Nat, arrOf st' = p.map (kas_item (vs.toArray.zip vs.toArray)) ∧ failedOf st' = none ∧ PR vs.length p ∧ Srt lt p vs.length ∧ s' = { s with heap := H3 })
   (G := fun p s' => PR vs.length p ∧ Srt lt p vs.length ∧ s' = { s with heap := H3 }) rfl hl2 h64 (fun p' st' s' a1 a2 a3 a4 => ⟨p', a2, a3, a4⟩)
   (KOk.wp (fun i j C hi hj q => k2 i j C hi hj q) (KOk.mono (fun q hq => ⟨hq.1, hq.2, rfl⟩) (Ss S hl2)))) ?_ fun _ _ e => e)
  rintro ⟨⟨⟩, st'⟩ s' ⟨p, har, hf, hp, hs, rfl⟩
  dsimp only
  refine wpAny_bind (seqEpoch_at at3 rfl ?_)
  have hout : (arrOf st').map (·.2) = (DZ vs p).toArray := kat_snds rfl har
  rw [hout]
  refine wpAny_bind (listUpdate_at at3 rfl ?_ (Nat.zero_le _) (by show (DZ vs p).toArray.size ≤ _; rw [List.size_toArray, QF hp, sizeLine_eq]; omega))
  rw [hf]
  simp only [bne_self_eq_false, Bool.false_eq_true, if_false]
  exact wpAny_pure (fin p hp hs)
theorem Qm {l : Addr} {vs : List Value} {lt : Nat → Nat → Bool} {Q : Value → Shared → Prop} (hl : s.heap.IsList l vs.toArray) (S : STO vs.length lt) (h64 : vs.length < 64)
  (hc : 2 ≤ vs.length → ∀ h' : Heap, (∀ b o, s.heap.get? b = some o → h'.get? b = some o) → ∃ κ : SortKind,
   (∀ (R : SortKind → Shared → Prop), R κ { s with heap := h' } → wpAny (model prog w) A.in1.in1 (keyKind' vs.toArray) R (fun _ _ => False) { s with heap := h' }) ∧
   ∀ i j (C : Bool → Shared → Prop), i < vs.length → j < vs.length → C (lt i j) { s with heap := h' } → wpAny (model prog w) A.in1.in1 (keyLt' κ (vs.getD i Value.none) (vs.getD j Value.none)) C (fun _ _ => False) { s with heap := h' })
  (h : ∀ (D : Addr) (h' : Heap) (p : Array Nat) (c : Nat), s.heap.objs.size ≤ D → (∀ b o, s.heap.get? b = some o → h'.get? b = some o) → h'.get? D = some (seqObj "list" (DZ vs p).toArray c) → PR vs.length p → Srt lt p vs.length → Q (.ref D) { s with heap := h' }) :
  wpAny (model prog w) A (call (.builtin "sorted") [.ref l]) Q E s := by
 refine Calls.call_function_entry kind_sorted plain_sorted entry_sorted (args_sorted1 _) ?_
 unfold Builtin.«sorted»
 refine wpAny_bind (m := checkCount "sorted" 1 1 _) (wpAny_pure ?_)
 refine wpAny_bind (collect_list hl ?_ (by rw [sizeLine_eq]; omega))
 refine wpAny_bind (wpAny_newList ?_ (by rw [sizeLine_eq]; omega))
 have hsz : ((s.heap.push (seqObj "list" #[] 0)).update s.heap.objs.size (Obj.mapSeq (· ++ vs.toArray))).objs.size = s.heap.objs.size + 1 := by
  rw [Heap.size_update, size_push']
 have hoL : (((s.heap.push (seqObj "list" #[] 0)).update s.heap.objs.size (Obj.mapSeq (· ++ vs.toArray))).push (seqObj "list" vs.toArray 0)).get? (s.heap.objs.size + 1) = some (seqObj "list" vs.toArray 0) := by
  rw [← hsz]; exact Heap.get?_push_size _ rfl
 have keep : ∀ b o, s.heap.get? b = some o → (((s.heap.push (seqObj "list" #[] 0)).update s.heap.objs.size (Obj.mapSeq (· ++ vs.toArray))).push (seqObj "list" vs.toArray 0)).get? b = some o := fun b o q => by
  have hlt : b < s.heap.objs.size := Heap.lt_size q
  rw [Heap.get?_push_ne _ _ _ (by rw [hsz]; exact Nat.ne_of_lt (Nat.lt_succ_of_lt hlt)), Heap.get?_update_ne _ _ _ _ (Nat.ne_of_lt hlt), Heap.get?_push_ne _ _ _ (Nat.ne_of_lt hlt)]
  exact q
 show wpAny _ _ _ _ _ { s with heap := ((s.heap.push (seqObj "list" #[] 0)).update s.heap.objs.size (Obj.mapSeq (· ++ vs.toArray))).push (seqObj "list" vs.toArray 0) }
 rw [hsz]
 have ne : ∀ b o, s.heap.get? b = some o → b ≠ s.heap.objs.size + 1 := fun b o q => Nat.ne_of_lt (Nat.lt_succ_of_lt (Heap.lt_size q))
 refine wpAny_bind (wpAny_holding (wpAny_call_entry slot_list_sort ⟨_, hoL, rfl⟩ entry_list_sort ?body (args_list_sort _)))
 case body =>
  refine RS (s := { s with heap := ((s.heap.push (seqObj "list" #[] 0)).update s.heap.objs.size (Obj.mapSeq (· ++ vs.toArray))).push (seqObj "list" vs.toArray 0) }) hoL S h64
   (fun h2 h' k => hc h2 h' fun b o q => k b o (ne b o q) (keep b o q)) fun h' p c k hat hp hs => ?_
  exact ⟨_, rfl, wpAny_pure ⟨_, rfl, h _ h' p c (Nat.le_succ _) (fun b o q => k b o (ne b o q) (keep b o q)) hat hp hs⟩⟩
end
theorem Nt : ∀ {a b : List Int}, HT.lexLt a b = true → HT.lexLt b a = false
 | [], [], h => by cases h
 | [], _ :: _, _ => rfl
 | _ :: _, [], h => by cases h
 | x :: r, y :: t, h => by
  rw [HT.lexLt_cons] at h ⊢
  by_cases e : x = y
  ·rw [if_pos e] at h; rw [if_pos e.symm]; exact Nt h
  ·rw [if_neg e] at h; rw [if_neg (Ne.symm e)]
   have := of_decide_eq_true h
   exact decide_eq_false (by omega)
theorem M9 : ∀ {a b c : List Int}, HT.lexLt a b = true → HT.lexLt b c = true → HT.lexLt a c = true
 | [], _, [], _, h => by rename_i b _; cases b <;> cases h
 | [], _, _ :: _, _, _ => rfl
 | _ :: _, [], _, h, _ => by cases h
 | _ :: _, _ :: _, [], _, h => by cases h
 | x :: r, y :: t, z :: u, h1, h2 => by
  rw [HT.lexLt_cons] at h1 h2 ⊢
  by_cases e1 : x = y
  ·rw [if_pos e1] at h1
   by_cases e2 : y = z
   ·rw [if_pos e2] at h2; rw [if_pos (e1.trans e2)]; exact M9 h1 h2
   ·rw [if_neg e2] at h2; rw [if_neg (by omega), e1]; exact h2
  ·rw [if_neg e1] at h1
   by_cases e2 : y = z
   ·rw [if_neg (by omega), ← e2]; exact h1
   ·rw [if_neg e2] at h2
    have d1 := of_decide_eq_true h1
    have d2 := of_decide_eq_true h2
    rw [if_neg (by omega)]
    exact decide_eq_true (by omega)
theorem P8 : ∀ {a b : List Int}, a ≠ b → HT.lexLt a b = true ∨ HT.lexLt b a = true
 | [], [], h => absurd rfl h
 | [], _ :: _, _ => .inl rfl
 | _ :: _, [], _ => .inr rfl
 | x :: r, y :: t, h => by
  rw [HT.lexLt_cons, HT.lexLt_cons]
  by_cases e : x = y
  ·rw [if_pos e, if_pos e.symm]
   exact P8 fun z => h (by rw [e, z])
  ·rw [if_neg e, if_neg (Ne.symm e)]
   rcases (by omega : x < y ∨ y < x) with z | z
   ·exact .inl (decide_eq_true z)
   ·exact .inr (decide_eq_true z)
theorem Sz {ts : List (List Int)} (h : ts.Nodup) : STO ts.length (fun i j => HT.lexLt (ts.getD i []) (ts.getD j [])) where
 tri := fun i j hi hj hij => P8 fun z => hij ((List.getElem_inj h).mp (by simpa [List.getD_eq_getElem?_getD, hi, hj] using z))
 asym := fun _ _ => Nt
 trans := fun _ _ _ => M9
section
variable {prog : Program} {w : World} {A : Around} {s : Shared}
theorem J0 {Q : Bool → Shared → Prop} : ∀ {t1 t2 : List Int} {us ws : List Value} (i : Nat) (fin : Bool), Ag (t1.map V.int) us → Ag (t2.map V.int) ws → fin = decide (t1.length < t2.length) → Q (HT.lexLt t1 t2) s →
  KatLex prog w A true fin Q (us.zip ws) i s
 | [], [], us, ws, i, fin, r1, r2, hf, q => by
  cases r1; cases r2
  rw [hf]; exact q
 | [], _ :: _, us, ws, i, fin, r1, r2, hf, q => by
  cases r1
  rw [hf]; exact q
 | x :: t1, [], us, ws, i, fin, r1, r2, hf, q => by
  cases r2
  have e : us.zip ([] : List Value) = [] := by cases us <;> rfl
  rw [e, hf]; exact q
 | x :: t1, y :: t2, us, ws, i, fin, r1, r2, hf, q => by
  cases r1 with
  | cons ra rb =>
   cases r2 with
   | cons rc rd =>
    obtain ⟨k1, rfl⟩ := ra
    obtain ⟨k2, rfl⟩ := rc
    refine kat_cons (wpAny_eqBool_int ?_)
    rw [HT.lexLt_cons] at q
    by_cases e : x = y
    ·rw [if_pos e] at q
     have e2 : (x == y) = true := by simpa using e
     rw [e2]
     refine kat_yes (J0 (i + 1) fin rb rd ?_ q)
     rw [hf]; simp
    ·rw [if_neg e] at q
     have e2 : (x == y) = false := by simpa using e
     rw [e2]
     refine kat_no ?_
     cases i with
     | zero => exact oneLt_int q
     | succ i => exact kat_one _ _ (lt_int (show W.BoolBack Q (.bool (decide (x < y))) s from q))
end
section
variable {X : Cx}
theorem Mu : ∀ {zs : List (Addr × List Int)} {us : List Value}, Ag (zs.map fun z => V.ref z.1) us → us = zs.map fun z => Value.ref z.1
 | [], _, r => by cases r; rfl
 | z :: zs, _, r => by
  cases r with
  | cons ra rb =>
   cases ra
   rw [Mu rb]; rfl
theorem OZ {h : Heap} {K : PySem.W.Frag} {M : Model} : ∀ {zs : List (Addr × List Int)}, (∀ z ∈ zs, z.2 ≠ [] ∧ ∃ its : List Value, Ag (z.2.map V.int) its ∧ IsTup h z.1 its.toArray) →
  ∃ fs : List Value, KatTups h (zs.map fun z => Value.ref z.1) fs ∧ fs.length = zs.length ∧ ∀ v ∈ fs, ∃ i t, v = Value.int i t
 | [], _ => ⟨[], .nil, rfl, fun _ hv => absurd hv (by simp)⟩
 | z :: zs, hz => by
  obtain ⟨fs, h1, h2, h3⟩ := OZ (h := h) (K := K) (M := M) (zs := zs) fun y hy => hz y (List.mem_cons_of_mem _ hy)
  obtain ⟨hne, its, rv, o, ho, hc, n, hd⟩ := hz z List.mem_cons_self
  obtain ⟨a, t⟩ := z
  cases t with
  | nil => exact absurd rfl hne
  | cons x t =>
   cases rv with
   | cons ra rb =>
    obtain ⟨tk, rfl⟩ := ra
    refine ⟨.int x tk :: fs, KatTups.cons ho hc hd (by simp) h1, by rw [List.length_cons, List.length_cons, h2], fun v hv => ?_⟩
    rcases List.mem_cons.mp hv with rfl | hv
    ·exact ⟨x, tk, rfl⟩
    ·exact h3 v hv
def EA (K : PySem.W.Frag) : List V → Hp → VK → Prop := fun xs H Q => ∃ l, xs = [.ref l] ∧ ∃ zs : List (Addr × List Int), SqL K H l (zs.map fun z => V.ref z.1) ∧ (∀ z ∈ zs, z.2 ≠ [] ∧ SqT K H z.1 (z.2.map V.int)) ∧ (zs.map (·.2)).Nodup ∧ zs.length < 64 ∧
 ∀ (D : Addr) (H' : Hp) (zs' : List (Addr × List Int)), H D = none → AH H H' → H' D = some (.lst (zs'.map fun z => V.ref z.1)) → zs'.Perm zs → zs'.Pairwise (fun a b => HT.lexLt a.2 b.2 = true) → Q (.ref D) H'
theorem OU {zs : List (Addr × List Int)} {i : Nat} (hi : i < zs.length) : (zs.map fun z => Value.ref z.1).getD i Value.none = Value.ref (zs[i]).1 := by
 rw [List.getD_eq_getElem?_getD, List.getElem?_map, List.getElem?_eq_getElem hi]; rfl
def Hf {α : Type} (d : α) (xs : List α) (p : Array Nat) : List α := p.toList.map fun i => xs.getD i d
theorem QT {α : Type} (d : α) (xs : List α) {p : Array Nat} (hp : PR xs.length p) : (Hf d xs p).Perm xs := by
 have h1 : p.toList.Perm (List.range xs.length) := by simpa using Array.perm_iff_toList_perm.mp hp.pm
 have h2 := h1.map fun i => xs.getD i d
 have h3 : ((List.range xs.length).map fun i => xs.getD i d) = xs := by
  refine List.ext_getElem (by simp) fun i h1 h2 => ?_
  simp [List.getD_eq_getElem?_getD]
  rw [List.getElem?_eq_getElem h2]; rfl
 rw [h3] at h2
 exact h2
theorem SI {α β : Type} (d : α) (e : β) (f : α → β) (xs : List α) {p : Array Nat} (hp : PR xs.length p) : Hf e (xs.map f) p = (Hf d xs p).map f := by
 unfold Hf
 rw [List.map_map]
 refine List.map_congr_left fun i hi => ?_
 have hi' : i < xs.length := by
  have := (hp.pm.mem_iff).mp (Array.mem_toList_iff.mp hi)
  simpa using this
 show (xs.map f).getD i e = f (xs.getD i d)
 rw [List.getD_eq_getElem?_getD, List.getD_eq_getElem?_getD, List.getElem?_map, List.getElem?_eq_getElem hi']; rfl
theorem Pf {α : Type} (d : α) (xs : List α) {p : Array Nat} {k : Nat} (hk : k < (Hf d xs p).length) : (Hf d xs p)[k] = xs.getD (at0 p k) d := by
 have hk' : k < p.size := by simpa [Hf] using hk
 have e : (Hf d xs p)[k]? = some (xs.getD (at0 p k) d) := by
  unfold Hf at0
  rw [List.getElem?_map, Array.getElem?_toList, Array.getD_eq_getD_getElem?, Array.getElem?_eq_getElem hk']; rfl
 rw [List.getElem?_eq_getElem hk] at e
 exact Option.some.inj e
theorem Nd : CB X (.builtin "sorted") (EA X.K) := by
 intro pins s σ H xs us Q I r h
 obtain ⟨l, rfl, zs, hl, ht, nd, h64, q⟩ := h
 obtain ⟨u, rfl, ru⟩ := vals1 r
 cases ru
 obtain ⟨its, rv, pl, hz⟩ := I.list hl
 have ei := Mu rv
 subst ei
 have hlen : (zs.map fun z => Value.ref z.1).length = zs.length := List.length_map _
 have S : STO (zs.map fun z => Value.ref z.1).length (fun i j => HT.lexLt ((zs.map (·.2)).getD i []) ((zs.map (·.2)).getD j [])) := by
  rw [hlen]
  have := Sz nd
  rw [List.length_map] at this
  exact this
 refine Qm pl.isList S (by rw [hlen]; exact h64) (fun h2 h' kp => ?_) fun D h' p c hD kp hat hp hs => ?_
 ·have tups : ∀ z ∈ zs, z.2 ≠ [] ∧ ∃ its : List Value, Ag (z.2.map V.int) its ∧ IsTup h' z.1 its.toArray := fun z hz => by
   obtain ⟨n1, n2⟩ := ht z hz
   obtain ⟨its, r1, ⟨o, ho, hc⟩, _⟩ := I.tuple n2
   exact ⟨n1, its, r1, o, kp _ _ ho, hc⟩
  obtain ⟨fs, t1, t2, t3⟩ := OZ (K := X.K) (M := model X.prog X.w) tups
  refine ⟨tuples' (Value.type "int" != Value.type "tuple"), fun R hR => ?_, fun i j C hi hj hC => ?_⟩
  ·refine kat_kind t1 (by rw [t2]; rw [hlen] at h2; omega) (fun v hv => ?_) (by decide) hR
   obtain ⟨i, t, rfl⟩ := t3 v hv
   exact .of_pure rfl
  ·rw [hlen] at hi hj
   rw [OU hi, OU hj]
   obtain ⟨_, i1, r1, o1, ho1, _, n1, hd1⟩ := tups zs[i] (List.getElem_mem hi)
   obtain ⟨_, i2, r2, o2, ho2, _, n2, hd2⟩ := tups zs[j] (List.getElem_mem hj)
   have eb : (Value.type "int" != Value.type "tuple") = true := by decide
   rw [eb]
   have l1 := r1.length
   have l2 := r2.length
   rw [List.length_map] at l1 l2
   refine kat_lt ho1 hd1 ho2 hd2 ?_
   refine J0 0 _ r1 r2 ?_ ?_
   ·simp [l1, l2]
   ·have g1 : (zs.map (·.2)).getD i [] = zs[i].2 := by rw [List.getD_eq_getElem?_getD, List.getElem?_map, List.getElem?_eq_getElem hi]; rfl
    have g2 : (zs.map (·.2)).getD j [] = zs[j].2 := by rw [List.getD_eq_getElem?_getD, List.getElem?_map, List.getElem?_eq_getElem hj]; rfl
    rw [g1, g2] at hC
    exact hC
 ·rw [hlen] at hp hs
  have hfr : H D = none := I.hok.fresh hD
  have eo : DZ (zs.map fun z => Value.ref z.1) p = (Hf ((0 : Addr), ([] : List Int)) zs p).map fun z => Value.ref z.1 := SI (0, []) Value.none (fun z : Addr × List Int => Value.ref z.1) zs hp
  have ep := QT ((0 : Addr), ([] : List Int)) zs hp
  have rel : ∀ ys : List (Addr × List Int), Ag (ys.map fun z => V.ref z.1) (ys.map fun z => Value.ref z.1) := fun ys => by
   induction ys with
   | nil => exact .nil
   | cons y ys ih => exact .cons rfl ih
  have I2 : Inv X pins σ (upd H D (.lst ((Hf ((0 : Addr), ([] : List Int)) zs p).map fun z => V.ref z.1))) { s with heap := h' } := by
   refine I.laid (t' := s.toks) kp hD ⟨by rw [List.length_map, ep.length_eq, PySem.sizeLine_eq]; omega, _, c, rel _, ?_⟩
   rw [hat, eo]
  refine ⟨.ref D, _, I2, rfl, q D _ _ hfr (Ax hfr) AO ep ?_⟩
  refine List.pairwise_iff_getElem.mpr fun i j hi hj hij => ?_
  have hpl : (Hf ((0 : Addr), ([] : List Int)) zs p).length = zs.length := ep.length_eq
  rw [Pf, Pf]
  have := Srt.all (n := zs.length) (by rw [hlen] at S; exact S) hs hij (by omega)
  have g : ∀ k, k < zs.length → (zs.map (·.2)).getD (at0 p k) [] = (zs.getD (at0 p k) (0, [])).2 := fun k hk => by
   have := hp.bd hk
   rw [List.getD_eq_getElem?_getD, List.getD_eq_getElem?_getD, List.getElem?_map, List.getElem?_eq_getElem this]; rfl
  rw [g i (by omega), g j (by omega)] at this
  exact this
end
theorem Bx : bootBuiltins "sorted" = some (.builtin "sorted") := by decide +kernel
section
variable {X : Cx} {pos : Pos}
def Du : TE := fun _ H Q => ∀ p H', H p = none → AH H H' → H' p = some (.dK []) → Q (.ref p) H'
theorem SF : PE X (.Dict [] [] pos) Du := fun pins s σ H Q I h => Rc pins s σ H Q I fun p hp => h p _ hp (Ax hp) AO
end
section
variable {X : Cx} {o e : Expr} {to te : TE} {pos : Pos}
theorem PE.weak {e : Expr} {t t' : TE} (h : PE X e t) (m : ∀ σ H Q, t' σ H Q → t σ H Q) : PE X e t' := fun pins s σ H Q I q => h pins s σ H Q I (m σ H Q q)
def CT (to te : TE) : TE := fun σ H Q => to σ H fun x H1 => ∃ l, x = .ref l ∧ ∃ xs, H1 l = some (.lst xs) ∧ te σ H1 fun y H2 => ∃ ys, H2 l = some (.lst ys) ∧ ys.length < sizeLine ∧ Q .non (upd H2 l (.lst (ys ++ [y])))
end
theorem S2 {H : Hp} {p l : Addr} {xs : List V} {o u : HO} (h : H p = some (.tup xs)) (hl : H l = some o) (hm : ∀ ys, o ≠ .tup ys) : L2.upd H l u p = some (.tup xs) := by
 rw [AG (GG h hl (Ne.symm (hm _)))]; exact h
section
variable {X : Cx} {o e : Expr} {to te : TE} {pos apos cpos : Pos}
def tMono (t : TE) : TE := fun σ H Q => ∃ P : VK, t σ H P ∧ ∀ v H', P v H' → Q v H'
theorem PE.mono {t : TE} (h : PE X e t) : PE X e (tMono t) := fun pins s σ H Q I ⟨P, h1, h2⟩ =>
 thn (h pins s σ H P I h1) fun u s1 ⟨v, H1, I1, r1, q1⟩ => ⟨v, H1, I1, r1, h2 v H1 q1⟩
theorem Be (ho : PE X o to) (he : PE X e te)
  (hbase : attributeBase o "append" X.env (eval o X.env) = eval o X.env := by rfl)
  (hfew : ((backTo cpos (starEach [e] X.env)).all (fun x => !x.1) && (backToKw cpos (keywordEach [] X.env)).all (fun x => x.1.isSome)
   && decide ([e].length + ([] : List Keyword).length + (if ([] : List Keyword).isEmpty then 0 else 1) < 30)) = true := by rfl)
  (hline : (apos.endLine == cpos.line) = true := by rfl) (hs : starEach [e] X.env = (false, eval e X.env) :: starEach [] X.env := by rfl) (hplain : (backTo cpos (starEach [] X.env)).any (·.1) = false := by rfl) :
  PE X (.Call (.Attribute o "append" apos) [e] [] cpos) (CT to te) :=
 PE.weak (Td PySem.F.plainAttrs_list PySem.F.slot_list_append PySem.F.type_list_append Mz ho.mono (AA he.mono AC hs) hbase hfew hline hs hplain) fun σ H Q h => by
  refine ⟨_, h, fun x H1 h1 => ?_⟩
  obtain ⟨l, rfl, xs, e1, h1⟩ := h1
  refine ⟨.inl ⟨rfl, xs, SqL.of e1⟩, _, h1, fun y H2 h2 => ?_⟩
  obtain ⟨ys, e2, hz, q⟩ := h2
  exact ⟨l, ys, y, rfl, rfl, e2, hz, q⟩
end
section
variable {X : Cx} {pos : Pos}
def MN (i j k : Nat) (ta : TA) : TS := fun D σ H => ta σ H fun vs H1 => ∃ v w u, vs = [v, w, u] ∧ D.nx (((σ.set i (some v)).set j (some w)).set k (some u)) H1
end
section
variable {X : Cx}
def NI (K : PySem.W.Frag) : R2 := fun x y H Q => ∃ a b, x = .ref a ∧ y = .ref b ∧ ∃ ns : List Int, SqT K H a (ns.map V.int) ∧ ∃ ms : List Int, SqT K H b (ms.map V.int) ∧ Q (.bl (decide (ns = ms))) H
def NY (K : PySem.W.Frag) : R2 := fun x y H Q => ∃ a b, x = .ref a ∧ y = .ref b ∧ ∃ ns : List Int, SqT K H a (ns.map V.int) ∧ ∃ ms : List Int, SqT K H b (ms.map V.int) ∧ Q (.bl (!decide (ns = ms))) H
def G1 (K : PySem.W.Frag) : R2 := fun x y H Q => ∃ a b, x = .ref a ∧ y = .ref b ∧ ∃ xs, SqL K H a xs ∧ SqL K H b [] ∧ Q (.bl (decide (xs = []))) H
theorem NU (hu : X.A.units < cLine) : OpR X (compareOp .Eq) (G1 X.K) := by
 intro pins s σ H x y v u Q I rx ry h
 obtain ⟨a, b, rfl, rfl, xs, h1, h2, q⟩ := h
 cases rx
 cases ry
 obtain ⟨i1, r1, t1, _⟩ := I.list h1
 obtain ⟨i2, r2, t2, _⟩ := I.list h2
 cases r2
 have l1 := r1.length
 by_cases e : xs = []
 ·subst e
  cases r1
  rw [decide_eq_true rfl] at q
  exact SeqAt.eq_listAt (e := fun _ => true) t1.isList t2.isList rfl hu (fun j h1 h2 => absurd h1 (by simp)) ⟨.bl true, H, I, rfl, q⟩
 ·rw [decide_eq_false e] at q
  refine SeqAt.eq_list_lengthsAt t1.isList t2.isList ?_ hu ⟨.bl false, H, I, rfl, q⟩
  have : i1.length ≠ 0 := by
   intro z
   rw [z] at l1
   exact e (List.eq_nil_of_length_eq_zero l1)
  simpa using this
theorem KU {K : PySem.W.Frag} (h : X.K = K) : IxR X (LU K) := h ▸ AL
def MH (K : PySem.W.Frag) : V → Option Int → Option Int → Hp → VK → Prop := fun x lo hi H Q => ∃ a, x = .ref a ∧ ∃ xs, SqL K H a xs ∧ ∀ p H', H p = none → AH H H' → H' p = some (.lst (Nb xs lo hi)) → Q (.ref p) H'
theorem Kn : SlR X (MH X.K) := fun pins s σ H x v vl vu lo hi sl Q I rx hs pl pu ⟨a, e, xs, h, q⟩ => Sa pins s σ H x v vl vu lo hi sl Q I rx hs pl pu ⟨a, xs, e, h, fun p hp => q p _ hp (Ax hp) AO⟩
theorem Mo {xs : List V} {i : Nat} : Nb xs (some (i : Int)) none = xs.drop i := by
 unfold Nb
 rw [HT.sIx_nat, HT.sIx_none]
 by_cases h : i ≤ xs.length
 ·rw [Nat.min_eq_left h, List.take_of_length_le (by rw [List.length_drop]; omega)]
 ·rw [Nat.min_eq_right (by omega), Nat.sub_self, List.take_zero, List.drop_eq_nil_of_le (by omega)]
end
end L2
set_option Elab.async false
set_option linter.all false
set_option maxRecDepth 100000
set_option maxHeartbeats 4000000
namespace L2
open PySem PySem.Spec PyProof.Rows
section
variable {X : Cx} {pins : List (Addr × Obj)} {σ : St} {H : Hp} {s : Shared} {h' : Heap}
theorem Inv.turnedL {t' : Nat} {its : List Addr} (I : Inv X pins σ H s) (k : ∀ b o, b ∉ its → s.heap.get? b = some o → h'.get? b = some o) (hf : ∀ b ∈ its, KS X pins H b) : Inv X pins σ H { s with heap := h', toks := t' } := by
 have nit : ∀ b u, H b = some u → b ∉ its := fun b u e z => by rw [(hf b z).1] at e; cases e
 refine I.step (g' := s.gens) (d' := s.drawn) (ch := its) (fun b hb => ?_) (fun b o _ _ hc e _ => k b o hc e) (fun b o _ _ hc e _ => ⟨o.slots, k b o hc e⟩) (fun _ _ _ _ n => n)
  (fun b o hc e => ⟨o, k b o hc e⟩) (fun _ _ e => e) (fun _ _ _ e => e) (fun b ps e => ⟨#[], by rw [e]; simp⟩) (fun m hm => ?_) (fun b u e => ?_) I.bare
 ·obtain ⟨f0, f1, f2, f3, f4, f5⟩ := hf b hb
  exact ⟨f3, f1, f4, f5⟩
 ·obtain ⟨o, es, ep, ho, r⟩ := hm
  exact ⟨o, es, ep, k _ o (fun z => (hf _ z).2.1 rfl) ho, r⟩
 ·refine (I.hok b u e).stay (fun c v hc q => k c v ?_ q) (fun _ q => q) fun _ _ q => q
  rcases hc with z | z
  ·rw [z]; exact nit b u e
  ·exact nit c _ z
end
def Ite (K : PySem.W.Frag) (a : Addr) : It :=
 ⟨fun i H => ∃ xs x, SqL K H a xs ∧ xs[i]? = some x, fun i H x H' => ∃ p y, x = .ref p ∧ H p = none ∧ H' = upd H p (.tup [.int (i : Int), y]) ∧ ∀ xs, SqL K H a xs → xs[i]? = some y, fun i H => ∃ xs, SqL K H a xs ∧ xs.length ≤ i⟩
theorem Qs {P : Program} {w : World} {K : PySem.W.Frag} {elts : List Expr} {k : Nat} {tp : Pos} (a e it : Addr) (hei : e ≠ it) :
  QG P w K (.Tuple elts k tp) (Ite K a) [e, it] e (fun i h => (∃ old, IsEnum h e it (i : Int) old) ∧ h.IsListIter it a i) where
 mem := by simp
 obj := fun i h st b hb => by
  obtain ⟨⟨old, he⟩, hit⟩ := st
  rcases List.mem_cons.mp hb with z | z
  ·subst z
   exact ⟨_, he, fun v z => by
    have z' : Data.fields _ = Data.cell v := z
    cases z'⟩
  ·have z := List.mem_singleton.mp z
   subst z
   obtain ⟨o, e, c, d⟩ := hit
   exact ⟨o, e, fun v z => by rw [d] at z; cases z⟩
 keep := fun i h h' st k => ⟨⟨_, k e (by simp) _ st.1.choose_spec⟩, st.2.at fun o x => k it (by simp) o x⟩
 item := by
  intro X hP hw hK hc i pins s σ H E I hf st hg
  subst hP hw hK
  obtain ⟨xs, x, hq, hx⟩ := hg
  obtain ⟨its, rv, p, hz⟩ := I.list hq
  obtain ⟨u, hu, ru⟩ := rv.get hx
  obtain ⟨⟨old, he⟩, hit⟩ := st
  have helt : e < s.heap.objs.size := Heap.lt_size he
  have hilt : it < s.heap.objs.size := by obtain ⟨_, x, _⟩ := hit; exact Heap.lt_size x
  refine wpAny_pyNext_enum_item he hit p.isList (x := u) (by simpa using hu) hei fun h' ho hit' hT hsz hk => ?_
  refine ⟨_, rfl, wpAny_letOwnedTupleGo_enum (s := { s with heap := h', toks := s.toks + 1 }) ho fun h2 he2 hs2 => ?_⟩
  have I1 : Inv X pins σ (upd H s.heap.objs.size (.tup [.int (i : Int), x])) { s with heap := s.heap.push { cls := .type "tuple", data := .seq #[.int (i : Int) s.toks, u] }, toks := s.toks + 1 } :=
   I.laid (fun b o e => Heap.get?_push_of_some _ e) (Nat.le_refl _) ⟨by rw [PySem.sizeLine_eq]; show 2 ≤ _; omega, [.int (i : Int) s.toks, u], .cons ⟨_, rfl⟩ (.cons ru .nil), IsTup.new s.heap _⟩
  have hfr : ∀ b ∈ [e, it], upd H s.heap.objs.size (.tup [.int (i : Int), x]) b = none := fun b hb => by
   have hlt : b < s.heap.objs.size := by
    rcases List.mem_cons.mp hb with z | z
    ·rw [z]; exact helt
    ·rw [List.mem_singleton.mp z]; exact hilt
   rw [AG (Nat.ne_of_lt hlt)]
   exact (hf b hb).1
  refine ⟨.ref s.heap.objs.size, upd H s.heap.objs.size (.tup [.int (i : Int), x]), ?_, rfl, ⟨_, x, rfl, I.fresh, rfl, fun ys hy => by rw [I.list_inj hy hq]; exact hx⟩, ⟨⟨_, by simpa using he2⟩, hit'.at fun o y => (hs2.2 it (Ne.symm hei)).trans y⟩, hfr⟩
  refine (show Inv X pins σ (upd H s.heap.objs.size (.tup [.int (i : Int), x])) { ({ s with heap := s.heap.push { cls := .type "tuple", data := .seq #[.int (i : Int) s.toks, u] }, toks := s.toks + 1 } : Shared) with heap := h2, toks := s.toks + 1 } from ?_)
  refine Inv.turnedL (its := [e, it]) I1 (fun b o hb eb => ?_) fun b hb => ⟨hfr b hb, (hf b hb).2⟩
  have hbe : b ≠ e := fun z => hb (by simp [z])
  have hbi : b ≠ it := fun z => hb (by simp [z])
  refine (hs2.2 b hbe).trans ?_
  by_cases hbs : b = s.heap.objs.size
  ·subst hbs
   have : (s.heap.push { cls := .type "tuple", data := .seq #[.int (i : Int) s.toks, u] }).get? s.heap.objs.size = some { cls := .type "tuple", data := .seq #[.int (i : Int) s.toks, u] } := Heap.get?_push_size _ rfl
   have eb := this.symm.trans eb
   rw [← eb]
   exact hT
  ·exact hk b o hbe hbi ((Heap.get?_push_ne _ _ _ hbs).symm.trans eb)
 done := by
  intro X hP hw hK hc i pins s σ H E I hf st hg
  subst hP hw hK
  obtain ⟨xs, hq, hx⟩ := hg
  obtain ⟨its, rv, p, hz⟩ := I.list hq
  have hl := rv.length
  obtain ⟨⟨old, he⟩, hit⟩ := st
  refine wpAny_pyNext_enum_end (I.ok.hd hc) he hit p.isList (Array.getElem?_eq_none (by simp; omega)) fun h' eb => ⟨rfl, ?_⟩
  obtain ⟨f0, f1, f2, f3, f4, f5⟩ := hf it (by simp)
  exact I.turned (t' := s.toks) (fun b o hb e => eb b o hb e) f0 f1 f3 f4 f5
 self := fun _ _ _ _ _ st h => by
  obtain ⟨⟨old, he⟩, _⟩ := st
  exact wpAny_pyIter_enum he h
section
variable {X : Cx}
def Gj (K : PySem.W.Frag) (ta : TA) : TI := fun σ H R => ta σ H fun vs H1 => ∃ a, vs = [.ref a] ∧ (∃ xs, SqL K H1 a xs) ∧ R (Ite K a) H1
theorem P3 {l : Expr} {ta : TA} {p pos tp : Pos} {elts : List Expr} {k : Nat} (hg : Gl X "enumerate") (hm : X.mg "enumerate" = none) (ha : PA X [l] ta) (hs : starEach [l] X.env = [(false, eval l X.env)] := by rfl) :
  PI X (.Tuple elts k tp) (.Call (.Name "enumerate" p) [l] [] pos) (Gj X.K ta) := by
 intro pins s σ H R I h
 refine Call_ (HQ I hg hm boot_enumerate (PyProof.Rows.callWith_type1 (thn (ha pos pins s σ H _ I h) fun us s1 ⟨vs, H1, I1, r1, q1⟩ => ?_) hs rfl))
 obtain ⟨a, e, ⟨xs, hq⟩, q⟩ := q1
 subst e
 cases r1 with
 | cons r rr =>
  cases rr
  cases r
  obtain ⟨its, rv, pl, hz⟩ := I1.list hq
  refine call_enumerate_list pl.isList fun h' he hit hsz hk => ?_
  have I2 : Inv X pins σ H1 { s1 with heap := h' } := I1.kept (t' := s1.toks) hk
  refine wpAny_pyIter_enum he ?_
  refine ⟨_, [s1.heap.objs.size + 1, s1.heap.objs.size], _, _, H1, rfl, I2, Qs a _ _ (Nat.succ_ne_self _), ⟨⟨_, by simpa using he⟩, hit⟩, fun b hb => ?_, q⟩
  have hb' : s1.heap.objs.size ≤ b := by
   rcases List.mem_cons.mp hb with z | z
   ·rw [z]; exact Nat.le_succ _
   ·rw [List.mem_singleton.mp z]; exact Nat.le_refl _
  exact I1.fpOk hb' (I1.hok.fresh hb')
theorem UI : bootBuiltins "all" = some (.builtin "all") := by decide +kernel
def MI (K : PySem.W.Frag) : List V → Hp → VK → Prop := fun xs H Q => ∃ a, xs = [.ref a] ∧ ∃ ys : List Bool, SqL K H a (ys.map V.bl) ∧ Q (.bl (ys.all id)) H
theorem R0 (hc : X.calm = true) : CB X (.builtin "all") (MI X.K) := by
 intro pins s σ H xs us Q I r h
 obtain ⟨a, rfl, ys, hq, q⟩ := h
 obtain ⟨u, rfl, rx⟩ := vals1 r
 cases rx
 obtain ⟨its, r', pl, hz⟩ := I.list hq
 have hlen := r'.length
 rw [List.length_map] at hlen
 have hlt : a < s.heap.objs.size := by obtain ⟨o, n, e, _⟩ := id pl; exact Heap.lt_size e
 refine call_all_walk (wpAny_pyIter_list pl.isList ?_)
 refine ⟨s.heap.objs.size, _, _, _, _, _, fun i => ys.getD i true, rfl, Walks.list (A := X.A.in1) (I.ok.hd hc) _ a (Nat.ne_of_lt hlt) its.toArray, ⟨⟨_, Heap.get?_push_size _ rfl, rfl, rfl⟩, pl.isList.at fun o e => Heap.get?_push_of_some _ e⟩, ?_, fun h' tk hk => ?_⟩
 ·intro i v s Q E hP hQ
  have hv : its[i]? = some v := by simpa using hP
  obtain ⟨hi, _⟩ := List.getElem?_eq_some_iff.mp hv
  obtain ⟨u, e1, e2⟩ := r'.get (i := i) (x := V.bl (ys.getD i true)) (by rw [List.getElem?_map, List.getElem?_eq_getElem (by omega), List.getD_eq_getElem?_getD, List.getElem?_eq_getElem (by omega)]; rfl)
  have e3 : v = u := Option.some.inj (hv.symm.trans e1)
  have e2 : u = Value.bool (ys.getD i true) := e2
  rw [e3, e2]
  exact wpAny_truthy_bool hQ
 ·have I2 : Inv X pins σ H { s with heap := h', toks := tk } := I.kept fun b o e => hk b o (fun z => by
   rw [List.mem_singleton.mp z] at e
   exact absurd (Heap.lt_size e) (Nat.lt_irrefl _)) (Heap.get?_push_of_some _ e)
  refine ⟨.bl (ys.all id), H, I2, ?_, q⟩
  show Value.bool _ = Value.bool _
  congr 1
  rw [show its.toArray.size = ys.length by simp [hlen], Bool.eq_iff_iff]
  simp only [List.all_eq_true, List.mem_range, id]
  constructor
  ·intro hh b hb
   obtain ⟨i, hi, rfl⟩ := List.getElem_of_mem hb
   have := hh i hi
   rwa [List.getD_eq_getElem?_getD, List.getElem?_eq_getElem hi] at this
  ·intro hh i hi
   rw [List.getD_eq_getElem?_getD, List.getElem?_eq_getElem hi]
   exact hh _ (List.getElem_mem hi)
end
theorem OO {K : PySem.W.Frag} {a : Addr} {xs : List V} {g : TG} {tb : TS} {D : Ld} {σ : St} {H : Hp} (Pv : Nat → St → Hp → Prop) (h0 : Pv 0 σ H) (hl : ∀ i σ H, i ≤ xs.length → Pv i σ H → SqL K H a xs)
  (hs : ∀ i x σ H p H', xs[i]? = some x → Pv i σ H → H p = none → AH H H' → H' p = some (.tup [.int (i : Int), x]) → g (.ref p) σ H' fun σ2 H2 => tb { D with nx := Pv (i + 1), ct := Pv (i + 1), bk := D.nx } σ2 H2) (hd : ∀ σ H, Pv xs.length σ H → D.nx σ H) :
  ∃ W : Nat → Nat → St → Hp → Prop, (∃ m, W 0 m σ H) ∧ ∀ i m σ H, W i m σ H →
   ((Ite K a).stop i H ∧ D.nx σ H) ∨ ((Ite K a).go i H ∧ ∃ N : St → Hp → Prop, (∀ σ' H', N σ' H' → ∃ m', m' < m ∧ W (i + 1) m' σ' H') ∧ ∀ x H', (Ite K a).yld i H x H' → g x σ H' fun σ2 H2 => tb { D with nx := N, ct := N, bk := D.nx } σ2 H2) := by
 refine ⟨fun i m σ H => m = xs.length - i ∧ i ≤ xs.length ∧ Pv i σ H, ⟨xs.length, by simp, Nat.zero_le _, h0⟩, ?_⟩
 rintro i m σ H ⟨rfl, hi, p⟩
 have q := hl i σ H hi p
 by_cases hlt : i < xs.length
 ·refine .inr ⟨⟨xs, xs[i], q, by simp [hlt]⟩, Pv (i + 1), fun σ' H' p' => ⟨xs.length - (i + 1), by omega, rfl, hlt, p'⟩, fun x H' y => ?_⟩
  obtain ⟨pp, z, rfl, hn, rfl, y⟩ := y
  exact hs i z σ _ _ _ (y xs q) p hn (Ax hn) AO
 ·have e : i = xs.length := by omega
  subst e
  exact .inl ⟨⟨xs, q, Nat.le_refl _⟩, hd σ H p⟩
end L2
set_option Elab.async false
set_option linter.all false
set_option maxRecDepth 100000
set_option maxHeartbeats 4000000
namespace TG
open PySem L2
theorem RA {d r : Int} (hd : 0 ≤ d) (hr : 0 < r) : Int.gcd r (d.fmod r) = Int.gcd d r := by
 rw [Int.fmod_eq_emod_of_nonneg d (Int.le_of_lt hr)]
 obtain ⟨n, rfl⟩ := Int.eq_ofNat_of_zero_le hd
 obtain ⟨m, rfl⟩ := Int.eq_ofNat_of_zero_le (Int.le_of_lt hr)
 show Nat.gcd m (((n % m : Nat) : Int)).natAbs = Nat.gcd n m
 rw [Int.natAbs_natCast, Nat.gcd_comm n m, Nat.gcd_rec m n, Nat.gcd_comm]
theorem SV {d r : Int} (hr : 0 < r) : 0 ≤ d.fmod r ∧ d.fmod r < r := ⟨Int.fmod_nonneg_of_pos d hr, Int.fmod_lt_of_pos d hr⟩
theorem QD {d : Int} (hd : 0 ≤ d) : ((Int.gcd d 0 : Nat) : Int) = d := by
 rw [Int.gcd_zero_right]; omega
structure EG (t b x y : Int) : Prop where
 ex : ∃ g : Int, g ≠ 0 ∧ t = g * x ∧ b = g * y
 pos : 0 < y
 one : Int.gcd x y = 1
theorem EG.eq {t b x y : Int} (h : EG t b x y) : t * y = b * x := by
 obtain ⟨g, _, rfl, rfl⟩ := h.ex
 rw [Int.mul_assoc, Int.mul_assoc, Int.mul_comm x y]
theorem G2 {g x : Int} (hg : g ≠ 0) : x.natAbs ≤ (g * x).natAbs := by
 rw [Int.natAbs_mul]
 exact Nat.le_mul_of_pos_left _ (by omega)
theorem EG.absx {t b x y : Int} (h : EG t b x y) : x.natAbs ≤ t.natAbs := by
 obtain ⟨g, hg, rfl, rfl⟩ := h.ex
 exact G2 hg
theorem EG.absy {t b x y : Int} (h : EG t b x y) : y.natAbs ≤ b.natAbs := by
 obtain ⟨g, hg, rfl, rfl⟩ := h.ex
 exact G2 hg
theorem SW (t b : Int) : Int.gcd (if t < 0 then -t else t) (if b < 0 then -b else b) = Int.gcd t b := by
 split <;> split <;> simp [Int.gcd_neg, Int.neg_gcd]
theorem VT {t b : Int} (hb : b ≠ 0) {d : Int} (hd : d = if b < 0 then -((Int.gcd t b : Nat) : Int) else ((Int.gcd t b : Nat) : Int)) : EG t b (t.fdiv d) (b.fdiv d) ∧ d ≠ 0 := by
 have hg : 0 < Int.gcd t b := Int.gcd_pos_of_ne_zero_right t hb
 have hd0 : d ≠ 0 := by rw [hd]; split <;> omega
 have habs : d.natAbs = Int.gcd t b := by rw [hd]; split <;> omega
 have h1 : d ∣ t := by
  rw [← Int.natAbs_dvd, habs]; exact Int.gcd_dvd_left ..
 have h2 : d ∣ b := by
  rw [← Int.natAbs_dvd, habs]; exact Int.gcd_dvd_right ..
 obtain ⟨x, hx⟩ := h1
 obtain ⟨y, hy⟩ := h2
 have ex : t.fdiv d = x := by rw [hx, Int.mul_fdiv_cancel_left _ hd0]
 have ey : b.fdiv d = y := by rw [hy, Int.mul_fdiv_cancel_left _ hd0]
 rw [ex, ey]
 refine ⟨⟨⟨d, hd0, hx, hy⟩, ?_, ?_⟩, hd0⟩
 ·rcases Int.lt_trichotomy y 0 with h | h | h
  ·exfalso
   by_cases hbn : b < 0
   ·rw [if_pos hbn] at hd
    have : 0 < d * y := Int.mul_pos_of_neg_of_neg (by omega) h
    omega
   ·rw [if_neg hbn] at hd
    have : d * y < 0 := Int.mul_neg_of_pos_of_neg (by omega) h
    omega
  ·rw [h, Int.mul_zero] at hy; exact absurd hy hb
  ·exact h
 ·have e : Int.gcd t b = d.natAbs * Int.gcd x y := by
   conv => lhs; rw [hx, hy]
   exact Int.gcd_mul_left ..
  rw [habs] at e
  have e2 : Int.gcd t b * 1 = Int.gcd t b * Int.gcd x y := by rw [Nat.mul_one]; exact e
  exact (Nat.eq_of_mul_eq_mul_left hg e2).symm
theorem Sg {t u x y f : Int} (hy : 0 < y) (hu : 0 < u) (E : t * y = u * x) : f * y ≤ x ↔ f * u ≤ t := by
 constructor
 ·intro h
  have h1 := Int.mul_le_mul_of_nonneg_left h (Int.le_of_lt hu)
  rw [← E] at h1
  have h2 : (f * u) * y ≤ t * y := by
   have e : (f * u) * y = u * (f * y) := by grind
   rw [e]; exact h1
  exact Int.le_of_mul_le_mul_right h2 hy
 ·intro h
  have h1 := Int.mul_le_mul_of_nonneg_right h (Int.le_of_lt hy)
  rw [E] at h1
  have h2 : u * (f * y) ≤ u * x := by
   have e : u * (f * y) = (f * u) * y := by grind
   rw [e]; exact h1
  exact Int.le_of_mul_le_mul_left h2 hu
theorem Sc {t u x y f : Int} (hy : 0 < y) (hu : 0 < u) (E : t * y = u * x) : x ≤ f * y ↔ t ≤ f * u := by
 constructor
 ·intro h
  have h1 := Int.mul_le_mul_of_nonneg_left h (Int.le_of_lt hu)
  rw [← E] at h1
  have h2 : t * y ≤ (f * u) * y := by
   have e : (f * u) * y = u * (f * y) := by grind
   rw [e]; exact h1
  exact Int.le_of_mul_le_mul_right h2 hy
 ·intro h
  have h1 := Int.mul_le_mul_of_nonneg_right h (Int.le_of_lt hy)
  rw [E] at h1
  have h2 : u * x ≤ u * (f * y) := by
   have e : u * (f * y) = (f * u) * y := by grind
   rw [e]; exact h1
  exact Int.le_of_mul_le_mul_left h2 hu
structure G where
 p : Int
 f : Int
 h : Int
abbrev G.vs (g : G) : List V := [.int g.p, .int g.f, .int g.h]
structure OkG (g : G) : Prop where
 p0 : -1000 ≤ g.p
 p1 : g.p ≤ 1000
 f0 : -1000 ≤ g.f
 fh : g.f ≤ g.h
 h1 : g.h ≤ 1000
def Ab (H : Hp) (as : List Addr) (gs : List G) : Prop := Paired (fun a g => H a = some (.tup (G.vs g))) as gs
theorem Ab.same {H H' : Hp} {as : List Addr} {gs : List G} (h : Ab H as gs) (s : AH H H') : Ab H' as gs := by
 unfold Ab at *
 induction h with
 | nil => exact .nil
 | cons e _ ih => exact .cons (s _ _ e) ih
theorem Ab.upd {H : Hp} {l : Addr} {o u : HO} {as : List Addr} {gs : List G} (h : Ab H as gs) (hl : H l = some o) (hm : ∀ ys, o ≠ .tup ys) : Ab (L2.upd H l u) as gs := by
 unfold Ab at *
 induction h with
 | nil => exact .nil
 | cons e _ ih => exact .cons (S2 e hl hm) ih
theorem Ab.snoc {H : Hp} {as : List Addr} {gs : List G} {a : Addr} {g : G} (h : Ab H as gs) (e : H a = some (.tup (G.vs g))) : Ab H (as ++ [a]) (gs ++ [g]) := Paired.snoc h e
theorem Ab.len {H : Hp} {as : List Addr} {gs : List G} (h : Ab H as gs) : as.length = gs.length := Paired.length h
theorem SG {xs : List Int} {i : Int} (h0 : 0 ≤ i) (h1 : i < xs.length) : atI (xs.map V.int) i = some (V.int (xs.getD i.toNat 0)) := by
 obtain ⟨n, rfl⟩ := Int.eq_ofNat_of_zero_le h0
 have hn : n < xs.length := by omega
 refine Db ?_
 rw [List.getElem?_map, List.getElem?_eq_getElem hn, Int.toNat_natCast, List.getD_eq_getElem?_getD, List.getElem?_eq_getElem hn]; rfl
theorem Gw {α : Type} [DecidableEq α] : ∀ {xs ys : List α}, xs.Nodup → (∀ x ∈ xs, x ∈ ys) → xs.length ≤ ys.length
 | [], _, _, _ => Nat.zero_le _
 | x :: xs, ys, hn, hs => by
  obtain ⟨h1, h2⟩ := List.nodup_cons.mp hn
  have hx := hs x List.mem_cons_self
  have ih := Gw (ys := ys.erase x) h2 fun y hy => (List.mem_erase_of_ne (fun (e : y = x) => h1 (by rw [← e]; exact hy))).mpr (hs y (List.mem_cons_of_mem _ hy))
  have := List.length_erase_of_mem hx
  have hp : 0 < ys.length := List.length_pos_of_mem hx
  rw [List.length_cons]
  omega
theorem OE {near span o : Int} {used : List Int} (hk : (used.length : Int) < span) (h : ∀ t : Nat, t ≤ used.length → near + (o + t) % span ∈ used) : False := by
 have hnd : ((List.range (used.length + 1)).map fun t : Nat => near + (o + t) % span).Nodup := by
  refine List.pairwise_iff_getElem.mpr fun a b ha hb hab => ?_
  rw [List.length_map, List.length_range] at ha hb
  rw [List.getElem_map, List.getElem_map, List.getElem_range, List.getElem_range]
  intro e
  have e1 : (o + (a : Int)) % span = (o + (b : Int)) % span := by omega
  have e2 := Int.emod_emod_of_dvd (o + (b : Int)) (Int.dvd_refl span)
  have d : span ∣ (o + (b : Int)) - (o + (a : Int)) := Int.dvd_of_emod_eq_zero (Int.emod_eq_emod_iff_emod_sub_eq_zero.mp e1.symm)
  have e3 : (o + (b : Int)) - (o + (a : Int)) = (b : Int) - a := by omega
  rw [e3] at d
  have := Int.le_of_dvd (by omega) d
  omega
 have hl := Gw (ys := used) hnd fun x hx => by
  obtain ⟨t, ht, rfl⟩ := List.mem_map.mp hx
  exact h t (by have := List.mem_range.mp ht; omega)
 rw [List.length_map, List.length_range] at hl
 omega
def Bf (a b c : G) : Prop := a.h * (c.p - b.p) + c.h * (b.p - a.p) < b.f * (c.p - a.p)
def Bl (a b c : G) : Prop := b.h * (c.p - a.p) < a.f * (c.p - b.p) + c.f * (b.p - a.p)
instance (a b c : G) : Decidable (Bf a b c) := by unfold Bf; exact inferInstance
instance (a b c : G) : Decidable (Bl a b c) := by unfold Bl; exact inferInstance
def LR (a b c : G) : Prop := Bf a b c ∨ Bl a b c
instance (a b c : G) : Decidable (LR a b c) := by unfold LR; exact inferInstance
def S6 (a b c : G) : Str := if Bf a b c then "foot" else if Bl a b c then "head" else ""
theorem Ab.zip {H : Hp} {as : List Addr} {gs : List G} (h : Ab H as gs) : ∃ zs : List (Addr × List Int), as = zs.map (·.1) ∧ zs.map (·.2) = gs.map (fun g => [g.p, g.f, g.h]) ∧ ∀ z ∈ zs, z.2 ≠ [] ∧ H z.1 = some (.tup (z.2.map V.int)) := by
 unfold Ab at h
 induction h with
 | nil => exact ⟨[], rfl, rfl, fun _ h => absurd h (by simp)⟩
 | @cons a g as gs e _ ih =>
  obtain ⟨zs, h1, h2, h3⟩ := ih
  refine ⟨(a, [g.p, g.f, g.h]) :: zs, by rw [h1]; rfl, by rw [List.map_cons, h2]; rfl, fun z hz => ?_⟩
  rcases List.mem_cons.mp hz with rfl | hz
  ·exact ⟨by simp, e⟩
  ·exact h3 z hz
theorem Ab.of_zip {H : Hp} : ∀ {zs : List (Addr × List Int)} {gs : List G}, zs.map (·.2) = gs.map (fun g => [g.p, g.f, g.h]) → (∀ z ∈ zs, H z.1 = some (.tup (z.2.map V.int))) → Ab H (zs.map (·.1)) gs
 | [], [], _, _ => .nil
 | [], _ :: _, e, _ => by cases e
 | _ :: _, [], e, _ => by cases e
 | z :: zs, g :: gs, e, h => by
  rw [List.map_cons, List.map_cons, List.cons.injEq] at e
  refine .cons ?_ (Ab.of_zip e.2 fun y hy => h y (List.mem_cons_of_mem _ hy))
  have := h z List.mem_cons_self
  rw [e.1] at this
  exact this
def toG (t : List Int) : G := ⟨t.getD 0 0, t.getD 1 0, t.getD 2 0⟩
theorem TF (gs : List G) : (gs.map fun g => [g.p, g.f, g.h]).map toG = gs := by
 rw [List.map_map]
 have : (toG ∘ fun g : G => [g.p, g.f, g.h]) = id := by funext g; rfl
 rw [this, List.map_id]
theorem lex_p {g g' : G} (hne : g.p ≠ g'.p) (h : HT.lexLt [g.p, g.f, g.h] [g'.p, g'.f, g'.h] = true) : g.p < g'.p := by
 rw [HT.lexLt_cons, if_neg hne] at h
 exact of_decide_eq_true h
def Asc (gs : List G) : Prop := gs.Pairwise fun a b => a.p < b.p
section
variable {X : Cx}
def Dx (K : PySem.W.Frag) : List V → Hp → VK → Prop := fun xs H Q => ∃ l, xs = [.ref l] ∧ ∃ (as : List Addr) (gs : List G), SqL K H l (as.map V.ref) ∧ Ab H as gs ∧ (gs.map G.p).Nodup ∧ gs.length < 64 ∧
 ∀ (D : Addr) (H' : Hp) (as' : List Addr) (gs' : List G), H D = none → AH H H' → H' D = some (.lst (as'.map V.ref)) → Ab H' as' gs' → gs'.Perm gs → Asc gs' → Q (.ref D) H'
theorem A9 : CB X (.builtin "sorted") (Dx X.K) := Nd.weak fun xs H Q ⟨l, e, as, gs, hl, ga, nd, h64, q⟩ => by
 obtain ⟨zs, h1, h2, h3⟩ := ga.zip
 have hlen : zs.length = gs.length := by
  have := congrArg List.length h2
  simpa using this
 refine ⟨l, e, zs, ?_, fun z hz => ⟨(h3 z hz).1, SqT.of (h3 z hz).2⟩, ?_, by omega, fun D H' zs' hD hs hat hp hsrt => ?_⟩
 ·rw [h1, List.map_map] at hl
  exact hl
 ·rw [h2]
  refine List.pairwise_map.mpr ((List.pairwise_map.mp nd).imp fun {a b} h z => h ?_)
  simp at z
  exact z.1
 ·have hm : (zs'.map (·.2)).Perm (gs.map fun g => [g.p, g.f, g.h]) := by rw [← h2]; exact hp.map _
  have hg : ((zs'.map (·.2)).map toG).Perm gs := by
   have := hm.map toG
   rw [TF] at this
   exact this
  have hback : zs'.map (·.2) = ((zs'.map (·.2)).map toG).map fun g => [g.p, g.f, g.h] := by
   rw [List.map_map]
   conv => lhs; rw [← List.map_id (zs'.map (·.2))]
   refine List.map_congr_left fun t ht => ?_
   obtain ⟨g, _, rfl⟩ := List.mem_map.mp (hm.mem_iff.mp ht)
   rfl
  refine q D H' (zs'.map (·.1)) ((zs'.map (·.2)).map toG) hD hs ?_ ?_ hg ?_
  ·rw [hat, List.map_map]; rfl
  ·exact Ab.of_zip hback fun z hz => hs.get (h3 z (hp.mem_iff.mp hz)).2
  ·have ndp : ((((zs'.map (·.2)).map toG)).map G.p).Nodup := ((hg.map G.p).nodup_iff).mpr nd
   have hsr : (((zs'.map (·.2)).map toG)).Pairwise fun a b => HT.lexLt [a.p, a.f, a.h] [b.p, b.f, b.h] = true := by
    have : ((((zs'.map (·.2)).map toG)).map fun g : G => [g.p, g.f, g.h]).Pairwise fun a b => HT.lexLt a b = true := by
     rw [← hback]
     exact List.pairwise_map.mpr hsrt
    exact List.pairwise_map.mp this
   have hne := List.pairwise_map.mp ndp
   exact (hsr.and hne).imp fun {a b} h => lex_p h.2 h.1
end
def JN (sg : List G) (i j k : Nat) : Prop := i < j ∧ j < k ∧ ∃ a b c, sg[i]? = some a ∧ sg[j]? = some b ∧ sg[k]? = some c ∧ LR a b c
def BK (sg : List G) : Prop := ∀ i j k, ¬ JN sg i j k
def Ap (sg : List G) (i j k : Nat) : Prop := ∀ i' j' k', JN sg i' j' k' → i < i' ∨ (i = i' ∧ (j < j' ∨ (j = j' ∧ k ≤ k')))
def KY (sg : List G) (i j k : Nat) : Prop := JN sg i j k ∧ Ap sg i j k
theorem KY.uniq {sg : List G} {i j k i' j' k' : Nat} (h : KY sg i j k) (h' : KY sg i' j' k') : i = i' ∧ j = j' ∧ k = k' := by
 have a := h.2 _ _ _ h'.1
 have b := h'.2 _ _ _ h.1
 omega
inductive BX (gs : List G) (t : List Int) : Prop where
 | no (sg : List G) (hp : sg.Perm gs) (ha : Asc sg) (hn : BK sg) (ht : t = [])
 | yes (sg : List G) (hp : sg.Perm gs) (ha : Asc sg) (i j k : Nat) (a b c : G) (hf : KY sg i j k) (h1 : sg[i]? = some a) (h2 : sg[j]? = some b) (h3 : sg[k]? = some c) (ht : t = [a.p, b.p, c.p])
theorem A7 : ∀ {xs ys : List G}, Asc xs → Asc ys → xs.Perm ys → xs = ys
 | [], ys, _, _, h => (List.nil_perm.mp h).symm
 | x :: xs, [], _, _, h => absurd h (by intro z; have := z.length_eq; simp at this)
 | x :: xs, y :: ys, h1, h2, h => by
  obtain ⟨a1, a2⟩ := List.pairwise_cons.mp h1
  obtain ⟨b1, b2⟩ := List.pairwise_cons.mp h2
  have e : x = y := by
   have hx : x ∈ y :: ys := h.mem_iff.mp List.mem_cons_self
   have hy : y ∈ x :: xs := h.mem_iff.mpr List.mem_cons_self
   rcases List.mem_cons.mp hx with e | hx
   ·exact e
   ·rcases List.mem_cons.mp hy with e | hy
    ·exact e.symm
    ·have := a1 y hy
     have := b1 x hx
     omega
  subst e
  rw [A7 a2 b2 ((List.perm_cons x).mp h)]
theorem BX.uniq {gs : List G} {t t' : List Int} (h : BX gs t) (h' : BX gs t') : t = t' := by
 cases h with
 | no sg hp ha hn ht =>
  cases h' with
  | no sg' hp' ha' hn' ht' => rw [ht, ht']
  | yes sg' hp' ha' i j k a b c hf h1 h2 h3 ht' =>
   have e := A7 ha ha' (hp.trans hp'.symm)
   subst e
   exact absurd hf.1 (hn i j k)
 | yes sg hp ha i j k a b c hf h1 h2 h3 ht =>
  cases h' with
  | no sg' hp' ha' hn' ht' =>
   have e := A7 ha ha' (hp.trans hp'.symm)
   subst e
   exact absurd hf.1 (hn' i j k)
  | yes sg' hp' ha' i' j' k' a' b' c' hf' h1' h2' h3' ht' =>
   have e := A7 ha ha' (hp.trans hp'.symm)
   subst e
   obtain ⟨e1, e2, e3⟩ := hf.uniq hf'
   subst e1 e2 e3
   rw [h1] at h1'; rw [h2] at h2'; rw [h3] at h3'
   cases h1'; cases h2'; cases h3'
   rw [ht, ht']
theorem BX.perm {gs gs' : List G} {t : List Int} (h : BX gs t) (hp : gs.Perm gs') : BX gs' t := by
 cases h with
 | no sg hp' ha hn ht => exact .no sg (hp'.trans hp) ha hn ht
 | yes sg hp' ha i j k a b c hf h1 h2 h3 ht => exact .yes sg (hp'.trans hp) ha i j k a b c hf h1 h2 h3 ht
theorem Ab.get {H : Hp} {as : List Addr} {gs : List G} (h : Ab H as gs) {i : Nat} {g : G} (hg : gs[i]? = some g) : ∃ a, as[i]? = some a ∧ H a = some (.tup (G.vs g)) := by
 unfold Ab at h
 induction h generalizing i with
 | nil => simp at hg
 | cons e _ ih =>
  cases i with
  | zero => simp at hg; subst hg; exact ⟨_, rfl, e⟩
  | succ i => exact ih (by simpa using hg)
theorem Bo {as : List Addr} {i : Nat} {a : Addr} (h : as[i]? = some a) : atI (as.map V.ref) (i : Int) = some (V.ref a) := Db (by rw [List.getElem?_map, h]; rfl)
theorem JN.lt {sg : List G} {i j k : Nat} (h : JN sg i j k) : k < sg.length := by
 obtain ⟨_, _, a, b, c, _, _, h3, _⟩ := h
 exact (List.getElem?_eq_some_iff.mp h3).1
theorem RC (sg : List G) : Ap sg 0 0 0 := fun i j k h => by
 have := h.1
 omega
theorem UN {sg : List G} {i : Nat} (h : Ap sg i 0 0) : Ap sg i (i + 1) 0 := fun i' j' k' hb => by
 have h1 := h _ _ _ hb
 have h2 := hb.1
 omega
theorem na_in {sg : List G} {i j : Nat} (h : Ap sg i j 0) : Ap sg i j (j + 1) := fun i' j' k' hb => by
 have h1 := h _ _ _ hb
 have h2 := hb.2.1
 omega
theorem Qv {sg : List G} {i j k : Nat} (hk : sg.length ≤ k) (h : Ap sg i j k) : Ap sg i (j + 1) 0 := fun i' j' k' hb => by
 have h1 := h _ _ _ hb
 have h2 := hb.lt
 omega
theorem O3 {sg : List G} {i j : Nat} (hj : sg.length ≤ j) (h : Ap sg i j 0) : Ap sg (i + 1) 0 0 := fun i' j' k' hb => by
 have h1 := h _ _ _ hb
 have h2 := hb.lt
 have h3 := hb.2.1
 have h4 := hb.1
 omega
theorem Sl {sg : List G} {i j k : Nat} (h : Ap sg i j k) (hn : ¬ JN sg i j k) : Ap sg i j (k + 1) := fun i' j' k' hb => by
 have h1 := h _ _ _ hb
 by_cases e : i = i' ∧ j = j' ∧ k = k'
 ·obtain ⟨rfl, rfl, rfl⟩ := e
  exact absurd hb hn
 ·omega
theorem na_no {sg : List G} (h : Ap sg sg.length 0 0) : BK sg := fun i j k hb => by
 have h1 := h _ _ _ hb
 have h2 := hb.lt
 have h3 := hb.1
 have h4 := hb.2.1
 omega
def Pas (a b c d pl f h : Int) : Prop := f * (b * d) ≤ a * d + pl * c * b ∧ a * d + pl * c * b ≤ h * (b * d)
instance (a b c d pl f h : Int) : Decidable (Pas a b c d pl f h) := by unfold Pas; exact inferInstance
structure Thr where
 a : Int
 b : Int
 c : Int
 d : Int
abbrev Thr.vs (t : Thr) : List V := [.int t.a, .int t.b, .int t.c, .int t.d]
abbrev Thr.pas (t : Thr) (g : G) : Prop := Pas t.a t.b t.c t.d g.p g.f g.h
abbrev Thr.gap (t : Thr) (p h : Int) : Int := t.a * t.d + t.c * p * t.b - h * t.b * t.d
structure OkT (t : Thr) : Prop where
 a1 : t.a.natAbs ≤ 999999999
 b1 : t.b.natAbs ≤ 999999999
 c1 : t.c.natAbs ≤ 999999999
 d1 : t.d.natAbs ≤ 999999999
 b0 : 0 < t.b
 d0 : 0 < t.d
 g1 : Int.gcd t.a t.b = 1
 g2 : Int.gcd t.c t.d = 1
inductive BarAt (H : Hp) (D : Addr) (gs : List G) : Prop where
 | mk (q : Addr) (t : List Int) (e : H D = some (.tup [.str "bar", .ref q])) (e2 : H q = some (.tup (t.map V.int))) (ne : t ≠ []) (f : BX gs t)
theorem BX.len3 {gs : List G} {t : List Int} (h : BX gs t) (ne : t ≠ []) : t.length = 3 := by
 rcases h with ⟨_, _, _, _, rfl⟩ | ⟨_, _, _, _, _, _, _, _, _, _, _, _, _, rfl⟩
 ·exact absurd rfl ne
 ·rfl
def ED (u w m : Int) (g : G) : Prop := g.f * m ≤ u + w * g.p ∧ u + w * g.p ≤ g.h * m
theorem DU {t : Thr} {g : G} : t.pas g ↔ ED (t.a * t.d) (t.c * t.b) (t.b * t.d) g := by
 show Pas _ _ _ _ _ _ _ ↔ _
 unfold Pas ED
 rw [show g.p * t.c * t.b = t.c * t.b * g.p by grind]
theorem F7 {a b c : G} {u w m : Int} (h1 : a.p < b.p) (h2 : b.p < c.p) (hm : 0 < m) (hb : LR a b c) (la : ED u w m a) (lb : ED u w m b) (lc : ED u w m c) : False := by
 obtain ⟨a1, a2⟩ := la
 obtain ⟨b1, b2⟩ := lb
 obtain ⟨c1, c2⟩ := lc
 have e : (u + w * b.p) * (c.p - a.p) = (u + w * a.p) * (c.p - b.p) + (u + w * c.p) * (b.p - a.p) := by grind
 rcases hb with hb | hb
 ·unfold Bf at hb
  have k1 := Int.mul_lt_mul_of_pos_right hb hm
  have k2 := Int.mul_le_mul_of_nonneg_right b1 (show 0 ≤ c.p - a.p by omega)
  have k3 := Int.mul_le_mul_of_nonneg_right a2 (show 0 ≤ c.p - b.p by omega)
  have k4 := Int.mul_le_mul_of_nonneg_right c2 (show 0 ≤ b.p - a.p by omega)
  rw [e] at k2
  have e1 : (a.h * (c.p - b.p) + c.h * (b.p - a.p)) * m = a.h * m * (c.p - b.p) + c.h * m * (b.p - a.p) := by grind
  have e2 : b.f * (c.p - a.p) * m = b.f * m * (c.p - a.p) := by grind
  rw [e1, e2] at k1
  omega
 ·unfold Bl at hb
  have k1 := Int.mul_lt_mul_of_pos_right hb hm
  have k2 := Int.mul_le_mul_of_nonneg_right b2 (show 0 ≤ c.p - a.p by omega)
  have k3 := Int.mul_le_mul_of_nonneg_right a1 (show 0 ≤ c.p - b.p by omega)
  have k4 := Int.mul_le_mul_of_nonneg_right c1 (show 0 ≤ b.p - a.p by omega)
  rw [e] at k2
  have e1 : (a.f * (c.p - b.p) + c.f * (b.p - a.p)) * m = a.f * m * (c.p - b.p) + c.f * m * (b.p - a.p) := by grind
  have e2 : b.h * (c.p - a.p) * m = b.h * m * (c.p - a.p) := by grind
  rw [e1, e2] at k1
  omega
theorem BQ {gs : List G} (ha : Asc gs) {i j : Nat} {x y : G} (hx : gs[i]? = some x) (hy : gs[j]? = some y) (hij : i < j) : x.p < y.p := by
 obtain ⟨h1, rfl⟩ := List.getElem?_eq_some_iff.mp hx
 obtain ⟨h2, rfl⟩ := List.getElem?_eq_some_iff.mp hy
 exact List.pairwise_iff_getElem.mp ha i j h1 h2 hij
theorem BX.line {gs : List G} {t : List Int} (h : BX gs t) {u w m : Int} (hm : 0 < m) (hl : ∀ g ∈ gs, ED u w m g) : t = [] := by
 rcases h with ⟨_, _, _, _, rfl⟩ | ⟨sg, hp, ha, i, j, k, a, b, c, hf, h1, h2, h3, _⟩
 ·rfl
 ·exfalso
  obtain ⟨⟨l1, l2, a', b', c', f1, f2, f3, hb⟩, _⟩ := hf
  rw [h1] at f1
  rw [h2] at f2
  rw [h3] at f3
  cases f1
  cases f2
  cases f3
  have mem : ∀ {i : Nat} {g : G}, sg[i]? = some g → g ∈ gs := fun e => hp.mem_iff.mp (List.mem_of_getElem? e)
  exact F7 (BQ ha h1 h2 l1) (BQ ha h2 h3 l2) hm hb (hl _ (mem h1)) (hl _ (mem h2)) (hl _ (mem h3))
theorem Oq {t : Thr} {x y : G} {u w m : Int} (ot : OkT t) (hm : 0 < m) (lt : x.p < y.p) (tx : t.gap x.p x.f = 0) (ty : t.gap y.p y.h = 0) (lx : ED u w m x) (ly : ED u w m y) : w * t.d ≤ t.c * m := by
 have hb := ot.b0
 have hd := ot.d0
 have e0 : t.b * (t.c * (y.p - x.p)) = t.b * ((y.h - x.f) * t.d) := by
  have : t.gap y.p y.h - t.gap x.p x.f = t.b * (t.c * (y.p - x.p)) - t.b * ((y.h - x.f) * t.d) := by unfold Thr.gap; grind
  omega
 have e1 : t.c * (y.p - x.p) = (y.h - x.f) * t.d := Int.eq_of_mul_eq_mul_left (by omega) e0
 have k1 : w * (y.p - x.p) ≤ (y.h - x.f) * m := by
  have := lx.1
  have := ly.2
  have e : w * (y.p - x.p) = (u + w * y.p) - (u + w * x.p) := by grind
  have e' : (y.h - x.f) * m = y.h * m - x.f * m := by grind
  omega
 have k2 := Int.mul_le_mul_of_nonneg_right k1 (show 0 ≤ t.d by omega)
 have e2 : (y.h - x.f) * m * t.d = (y.h - x.f) * t.d * m := by grind
 rw [e2, ← e1] at k2
 have k3 : w * t.d * (y.p - x.p) ≤ t.c * m * (y.p - x.p) := by
  rw [show w * t.d * (y.p - x.p) = w * (y.p - x.p) * t.d by grind, show t.c * m * (y.p - x.p) = t.c * (y.p - x.p) * m by grind]
  exact k2
 exact Int.le_of_mul_le_mul_right k3 (by omega)
theorem Kr {gs : List G} (ok : ∀ g ∈ gs, OkG g) {x y : G} (hx : x ∈ gs) (hy : y ∈ gs) (lt : x.p < y.p)
  (least : ∀ x' ∈ gs, ∀ y' ∈ gs, x'.p < y'.p → (y.h - x.f) * (y'.p - x'.p) ≤ (y'.h - x'.f) * (y.p - x.p))
  (uniq : ∀ g ∈ gs, ∀ g' ∈ gs, g.p = g'.p → g = g')
  (nb1 : ∀ m ∈ gs, m.p < x.p → ¬ Bf m x y) (nb2 : ∀ m ∈ gs, y.p < m.p → ¬ Bl x y m) :
  ∀ g ∈ gs, ED (x.f * y.p - y.h * x.p) (y.h - x.f) (y.p - x.p) g := by
 intro g hg
 have og := ok g hg
 have ox := ok x hx
 have oy := ok y hy
 have gfh := og.fh
 unfold ED
 have eL : x.f * y.p - y.h * x.p + (y.h - x.f) * g.p = x.f * (y.p - g.p) + y.h * (g.p - x.p) := by grind
 rw [eL]
 rcases Int.lt_trichotomy g.p x.p with h | h | h
 ·have k1 := least g hg y hy (by omega)
  refine ⟨by grind, ?_⟩
  have k2 := nb1 g hg h
  unfold Bf at k2
  rw [Int.not_lt] at k2
  grind
 ·have := uniq g hg x hx h
  subst this
  refine ⟨by grind, ?_⟩
  have := Int.mul_le_mul_of_nonneg_right gfh (show 0 ≤ y.p - g.p by omega)
  grind
 ·rcases Int.lt_trichotomy g.p y.p with h' | h' | h'
  ·have k1 := least g hg y hy h'
   have k2 := least x hx g hg h
   exact ⟨by grind, by grind⟩
  ·have := uniq g hg y hy h'
   subst this
   refine ⟨?_, by grind⟩
   have := Int.mul_le_mul_of_nonneg_right gfh (show 0 ≤ g.p - x.p by omega)
   grind
  ·have k1 := least x hx g hg (by omega)
   refine ⟨?_, by grind⟩
   have k2 := nb2 g hg h'
   unfold Bl at k2
   rw [Int.not_lt] at k2
   grind
theorem Ab.fresh {H : Hp} {as : List Addr} {gs : List G} {D : Addr} {o : HO} (h : Ab H as gs) (hD : ∀ ys, H D ≠ some (.tup ys)) : Ab (L2.upd H D o) as gs := by
 induction h with
 | nil => exact .nil
 | cons e _ ih =>
  refine .cons ?_ ih
  rw [AG (fun z => hD _ (z ▸ e))]
  exact e
theorem Og {K : PySem.W.Frag} {a : Addr} {as : List Addr} {gs : List G} {tc : TT} {caps : St} {D : Addr} {H1 : Hp} {Q : Hp → Prop} (P : G → Bool) (hl : SqL K H1 a (as.map V.ref)) (ga : Ab H1 as gs) (hD : H1 D = none) (hz : gs.length ≤ 1000)
  (ht : ∀ v g H (R : Bool → Hp → Prop), g ∈ gs → AH H1 H → H v = some (.tup (G.vs g)) → R (P g) H → tc (some (.ref v) :: caps) H R)
  (hd : ∀ H as', AH H1 H → H D = some (.lst (as'.map V.ref)) → Ab H as' (gs.filter P) → Q H) : HH (KN 0) tc caps (Itl K a) D H1 Q := by
 have la := ga.len
 refine C5 (xs := as.map V.ref) (fun i ys H => ∃ as' : List Addr, ys = as'.map V.ref ∧ AH H1 H ∧ H D = some (.lst ys) ∧ Ab H as' ((gs.take i).filter P) ∧ as'.length ≤ i) ⟨[], rfl, Ax hD, AO, .nil, Nat.le_refl _⟩ (fun _ _ H _ ⟨_, _, s1, _⟩ => s1.seq hl) ?_ ?_
 ·rintro i x ys H hx ⟨as', rfl, s1, e1, g1, l1⟩
  have hi : i < gs.length := by
   have := (List.getElem?_eq_some_iff.mp hx).1
   rw [List.length_map] at this
   omega
  obtain ⟨v, hv, t1⟩ := ga.get (List.getElem?_eq_getElem hi)
  have ex : x = V.ref v := by
   rw [List.getElem?_map, hv] at hx
   exact (Option.some.inj hx).symm
  subst ex
  have et : gs.take (i + 1) = gs.take i ++ [gs[i]] := List.take_succ_eq_append_getElem hi
  refine ht v gs[i] H _ (List.getElem_mem hi) s1 (s1.get t1) ?_
  have hlen : (as.map V.ref).length = gs.length := by rw [List.length_map, la]
  by_cases hp : P gs[i] = true
  ·rw [if_pos hp]
   refine ⟨_, rfl, e1, by rw [List.length_map, PySem.sizeLine_eq]; omega, _, by omega, rfl, by omega, as' ++ [v], by rw [List.map_append]; rfl, s1.updFresh hD, AO, ?_, by rw [List.length_append]; simp; omega⟩
   rw [et, List.filter_append, List.filter_cons, if_pos hp, List.filter_nil]
   exact (g1.snoc (s1.get t1)).fresh (fun ys z => by rw [e1] at z; cases z)
  ·rw [if_neg hp]
   refine ⟨_, by omega, rfl, by omega, as', rfl, s1, e1, ?_, by omega⟩
   rw [et, List.filter_append, List.filter_cons, if_neg hp, List.filter_nil, List.append_nil]
   exact g1
 ·rintro ys H ⟨as', rfl, s1, e1, g1, l1⟩
  rw [List.length_map, la, List.take_length] at g1
  exact hd H as' s1 e1 g1
structure Run where
 g : G
 rest : List G
 t : Thr
abbrev Run.all (r : Run) : List G := r.g :: r.rest
abbrev Run.last (r : Run) : G := r.rest.getLastD r.g
def GE (H : Hp) (a : Addr) (r : Run) : Prop := ∃ q, H a = some (.tup [.int r.g.p, .int r.last.p, .ref q]) ∧ H q = some (.tup r.t.vs) ∧ OkT r.t ∧ ∀ g ∈ r.all, r.t.pas g
def Far : List Run → Prop
 | r :: r' :: rs => ¬ BK (r.all ++ [r'.g]) ∧ Far (r' :: rs)
 | _ => True
theorem GE.same {H H' : Hp} {a : Addr} {r : Run} (h : GE H a r) (s : AH H H') : GE H' a r := by
 obtain ⟨q, e1, e2, e3⟩ := h
 exact ⟨q, s.get e1, s.get e2, e3⟩
structure NK (H : Hp) (D : Addr) (as : List Addr) (rs : List Run) (gs : List G) : Prop where
 eD : H D = some (.lst (as.map V.ref))
 at_ : Paired (GE H) as rs
 perm : (rs.flatMap Run.all).Perm gs
 asc : Asc (rs.flatMap Run.all)
 far : Far rs
theorem NX (rs : List Run) : rs.length ≤ (rs.flatMap Run.all).length := by
 induction rs with
 | nil => exact Nat.le_refl _
 | cons r rs ih =>
  rw [List.flatMap_cons, List.length_append, List.length_cons]
  have : r.all.length = r.rest.length + 1 := rfl
  omega
theorem BK.infix {x y z : List G} (h : BK (x ++ y ++ z)) : BK y := fun i j k ⟨h1, h2, a, b, c, e1, e2, e3, hb⟩ => by
 have lift : ∀ {n : Nat} {g : G}, y[n]? = some g → (x ++ y ++ z)[x.length + n]? = some g := fun {n g} e => by
  have hn := (List.getElem?_eq_some_iff.mp e).1
  rw [List.append_assoc, List.getElem?_append_right (by omega), Nat.add_sub_cancel_left, List.getElem?_append_left hn]
  exact e
 exact h (x.length + i) (x.length + j) (x.length + k) ⟨by omega, by omega, a, b, c, lift e1, lift e2, lift e3, hb⟩
theorem Jg {xs : List G} (h : xs.length ≤ 2) : BK xs := fun i j k hb => by
 have := hb.lt
 have := hb.1
 have := hb.2.1
 omega
theorem PN {gs : List G} (ha : Asc gs) {u w m : Int} (hm : 0 < m) (h : ∀ g ∈ gs, ED u w m g) : BK gs := fun i j k ⟨h1, h2, a, b, c, e1, e2, e3, hb⟩ =>
 F7 (BQ ha e1 e2 h1) (BQ ha e2 e3 h2) hm hb (h _ (List.mem_of_getElem? e1)) (h _ (List.mem_of_getElem? e2)) (h _ (List.mem_of_getElem? e3))
theorem Ab.takeG {H : Hp} {as : List Addr} {gs : List G} (h : Ab H as gs) (n : Nat) : Ab H (as.take n) (gs.take n) := by
 induction h generalizing n with
 | nil => rw [List.take_nil, List.take_nil]; exact .nil
 | cons e t ih =>
  cases n with
  | zero => exact .nil
  | succ n => exact .cons e (ih n)
theorem O2 {xs : List V} {i : Nat} : Nb xs none (some (i : Int)) = xs.take i := by
 unfold Nb
 rw [HT.sIx_nat, HT.sIx_none, List.drop_zero, Nat.sub_zero]
 by_cases h : i ≤ xs.length
 ·rw [Nat.min_eq_left h]
 ·rw [Nat.min_eq_right (by omega), List.take_length, List.take_of_length_le (by omega)]
theorem Ab.append {H : Hp} {as bs : List Addr} {gs hs : List G} (h : Ab H as gs) (h' : Ab H bs hs) : Ab H (as ++ bs) (gs ++ hs) := by
 induction h with
 | nil => exact h'
 | cons e _ ih => exact .cons e ih
theorem FJ {K : PySem.W.Frag} {a : Addr} {as : List Addr} {gs : List G} {te : TE} {tc : TT} {caps : St} {D : Addr} {H1 : Hp} {Q : Hp → Prop} (P : G → Bool) (f : G → V) (hl : SqL K H1 a (as.map V.ref)) (ga : Ab H1 as gs) (hD : H1 D = none) (hz : gs.length ≤ 1000)
  (ht : ∀ v g H (R : Bool → Hp → Prop), g ∈ gs → AH H1 H → H v = some (.tup (G.vs g)) → R (P g) H → tc (some (.ref v) :: caps) H R)
  (he : ∀ v g H (R : VK), g ∈ gs → AH H1 H → H v = some (.tup (G.vs g)) → R (f g) H → te (some (.ref v) :: caps) H R)
  (hd : ∀ H, AH H1 H → H D = some (.lst ((gs.filter P).map f)) → Q H) : HH te tc caps (Itl K a) D H1 Q := by
 have la := ga.len
 refine C5 (xs := as.map V.ref) (fun i ys H => ys = ((gs.take i).filter P).map f ∧ AH H1 H ∧ H D = some (.lst ys)) ⟨rfl, Ax hD, AO⟩ (fun _ _ H _ ⟨_, s1, _⟩ => s1.seq hl) ?_ ?_
 ·rintro i x ys H hx ⟨rfl, s1, e1⟩
  have hi : i < gs.length := by
   have := (List.getElem?_eq_some_iff.mp hx).1
   rw [List.length_map] at this
   omega
  obtain ⟨v, hv, t1⟩ := ga.get (List.getElem?_eq_getElem hi)
  have ex : x = V.ref v := by
   rw [List.getElem?_map, hv] at hx
   exact (Option.some.inj hx).symm
  subst ex
  have et : gs.take (i + 1) = gs.take i ++ [gs[i]] := List.take_succ_eq_append_getElem hi
  have hlen : (as.map V.ref).length = gs.length := by rw [List.length_map, la]
  have hle : (((gs.take i).filter P).map f).length ≤ i := by
   rw [List.length_map]
   exact Nat.le_trans (List.length_filter_le _ _) (List.length_take_le _ _)
  refine ht v gs[i] H _ (List.getElem_mem hi) s1 (s1.get t1) ?_
  by_cases hp : P gs[i] = true
  ·rw [if_pos hp]
   refine he v gs[i] H _ (List.getElem_mem hi) s1 (s1.get t1) ?_
   refine ⟨e1, by rw [PySem.sizeLine_eq]; omega, _, by omega, rfl, by omega, ?_, s1.updFresh hD, AO⟩
   rw [et, List.filter_append, List.filter_cons, if_pos hp, List.filter_nil, List.map_append]
   rfl
  ·rw [if_neg hp]
   refine ⟨_, by omega, rfl, by omega, ?_, s1, e1⟩
   rw [et, List.filter_append, List.filter_cons, if_neg hp, List.filter_nil, List.append_nil]
 ·rintro ys H ⟨rfl, s1, e1⟩
  rw [List.length_map, la, List.take_length] at e1
  exact hd H s1 e1
structure Fl (H : Hp) (D : Addr) (gs : List G) (L q : Addr) (t : Thr) (sg : List G) : Prop where
 eD : H D = some (.tup [.ref L, .ref q])
 eL : H L = some (.lst (((sg.filter fun g => decide (t.pas g)).map G.p).map V.int))
 eq : H q = some (.tup t.vs)
 ok : OkT t
 hp : sg.Perm gs
 ha : Asc sg
 most : ∀ u w m : Int, 0 < m → ∀ ps : List G, ps.Sublist sg → (∀ g ∈ ps, ED u w m g) → ps.length ≤ (sg.filter fun g => decide (t.pas g)).length
theorem Fl.same {H H' : Hp} {D : Addr} {gs : List G} {L q : Addr} {t : Thr} {sg : List G} (h : Fl H D gs L q t sg) (s : AH H H') : Fl H' D gs L q t sg := ⟨s.get h.eD, s.get h.eL, s.get h.eq, h.ok, h.hp, h.ha, h.most⟩
theorem Re {x y : G} (ox : OkG x) (oy : OkG y) (lt : x.p < y.p) : ED (x.f * y.p - y.f * x.p) (y.f - x.f) (y.p - x.p) x ∧ ED (x.f * y.p - y.f * x.p) (y.f - x.f) (y.p - x.p) y := by
 have h1 := Int.mul_le_mul_of_nonneg_right ox.fh (show 0 ≤ y.p - x.p by omega)
 have h2 := Int.mul_le_mul_of_nonneg_right oy.fh (show 0 ≤ y.p - x.p by omega)
 have e1 : x.f * y.p - y.f * x.p + (y.f - x.f) * x.p = x.f * (y.p - x.p) := by grind
 have e2 : x.f * y.p - y.f * x.p + (y.f - x.f) * y.p = y.f * (y.p - x.p) := by grind
 refine ⟨⟨?_, ?_⟩, ⟨?_, ?_⟩⟩
 ·rw [e1]; exact Int.le_refl _
 ·rw [e1]; exact h1
 ·rw [e2]; exact Int.le_refl _
 ·rw [e2]; exact h2
theorem Fl.two {H : Hp} {D : Addr} {gs : List G} {L q : Addr} {t : Thr} {sg : List G} (h : Fl H D gs L q t sg) (ok : ∀ g ∈ gs, OkG g) : min 2 gs.length ≤ (sg.filter fun g => decide (t.pas g)).length := by
 have hl := h.hp.length_eq
 have ok' : ∀ g ∈ sg, OkG g := fun g hg => ok g (h.hp.mem_iff.mp hg)
 have ha := h.ha
 have hm := h.most
 generalize hn : (sg.filter fun g => decide (t.pas g)).length = n at *
 rw [← hl]
 clear hl hn
 match sg, ok', ha, hm with
 | [], _, _, _ => exact Nat.zero_le _
 | [x], ok', _, hm =>
  have := hm x.f 0 1 (by decide) [x] (List.Sublist.refl _) (fun g hg => by
   rw [List.mem_singleton.mp hg]
   have := (ok' x (by simp)).fh
   exact ⟨by omega, by omega⟩)
  simp at this ⊢
  omega
 | x :: y :: sg, ok', ha, hm =>
  have lt : x.p < y.p := (List.pairwise_cons.mp ha).1 y (by simp)
  obtain ⟨k1, k2⟩ := Re (ok' x (by simp)) (ok' y (by simp)) lt
  have := hm _ _ (y.p - x.p) (by omega) [x, y] (by simp) (fun g hg => by
   rcases List.mem_cons.mp hg with e | e
   ·rw [e]; exact k1
   ·rw [List.mem_singleton.mp e]; exact k2)
  simp at this ⊢
  omega
theorem LI : ∀ (xs : List (Int × Int)), xs ≠ [] → (∀ x ∈ xs, 0 < x.2) → ∃ x ∈ xs, ∀ y ∈ xs, x.1 * y.2 ≤ y.1 * x.2
 | [], h, _ => absurd rfl h
 | [x], _, _ => ⟨x, by simp, fun y hy => by rw [List.mem_singleton.mp hy]; exact Int.le_refl _⟩
 | x :: z :: xs, _, hp => by
  obtain ⟨y, hy, hm⟩ := LI (z :: xs) (by simp) (fun w hw => hp w (List.mem_cons_of_mem _ hw))
  have px := hp x (by simp)
  have py := hp y (List.mem_cons_of_mem _ hy)
  by_cases h : x.1 * y.2 ≤ y.1 * x.2
  ·refine ⟨x, by simp, fun w hw => ?_⟩
   rcases List.mem_cons.mp hw with e | e
   ·rw [e]; exact Int.le_refl _
   ·have pw := hp w hw
    have k1 := Int.mul_le_mul_of_nonneg_right h (show 0 ≤ w.2 by omega)
    have k2 := Int.mul_le_mul_of_nonneg_right (hm w e) (show 0 ≤ x.2 by omega)
    have k3 : x.1 * w.2 * y.2 ≤ w.1 * x.2 * y.2 := by grind
    exact Int.le_of_mul_le_mul_right k3 py
  ·refine ⟨y, List.mem_cons_of_mem _ hy, fun w hw => ?_⟩
   rcases List.mem_cons.mp hw with e | e
   ·rw [e]; omega
   ·exact hm w e
theorem EZ {gs : List G} (ha : Asc gs) {i j : Nat} {x y : G} (hx : gs[i]? = some x) (hy : gs[j]? = some y) (h : x.p < y.p) : i < j := by
 rcases Nat.lt_trichotomy i j with c | c | c
 ·exact c
 ·subst c
  rw [hx] at hy
  cases hy
  omega
 ·have := BQ ha hy hx c
  omega
theorem GU {gs : List G} (ha : Asc gs) (nb : BK gs) {a b c : G} (h1 : a ∈ gs) (h2 : b ∈ gs) (h3 : c ∈ gs) (l1 : a.p < b.p) (l2 : b.p < c.p) : ¬ LR a b c := by
 obtain ⟨i, hi⟩ := List.mem_iff_getElem?.mp h1
 obtain ⟨j, hj⟩ := List.mem_iff_getElem?.mp h2
 obtain ⟨k, hk⟩ := List.mem_iff_getElem?.mp h3
 exact fun hb => nb i j k ⟨EZ ha hi hj l1, EZ ha hj hk l2, a, b, c, hi, hj, hk, hb⟩
theorem LX {gs : List G} (ha : Asc gs) {x y : G} (hx : x ∈ gs) (hy : y ∈ gs) (e : x.p = y.p) : x = y := by
 obtain ⟨i, hi⟩ := List.mem_iff_getElem?.mp hx
 obtain ⟨j, hj⟩ := List.mem_iff_getElem?.mp hy
 rcases Nat.lt_trichotomy i j with c | c | c
 ·have := BQ ha hi hj c
  omega
 ·subst c
  rw [hi] at hj
  exact Option.some.inj hj
 ·have := BQ ha hj hi c
  omega
theorem Mm {K : PySem.W.Frag} {a : Addr} {as : List Addr} {gs : List G} {te : TE} {caps : St} {D : Addr} {H1 : Hp} {Q : Hp → Prop} (F : Hp → V → G → Prop) (fs : ∀ H H' v g, AH H H' → F H v g → F H' v g)
  (fd : ∀ H v g xs ys, H D = some (.lst xs) → F H v g → F (L2.upd H D (.lst ys)) v g) (hl : SqL K H1 a (as.map V.ref)) (ga : Ab H1 as gs) (hD : H1 D = none) (hz : gs.length ≤ 1000)
  (he : ∀ v g H (R : VK), g ∈ gs → AH H1 H → H v = some (.tup (G.vs g)) → (∀ y H', AH H H' → F H' y g → R y H') → te (some (.ref v) :: caps) H R)
  (hd : ∀ H ys, AH H1 H → H D = some (.lst ys) → Paired (F H) ys gs → Q H) : HH te Gc caps (Itl K a) D H1 Q := by
 have la := ga.len
 have hlen : (as.map V.ref).length = gs.length := by rw [List.length_map, la]
 refine C5 (xs := as.map V.ref) (fun i ys H => AH H1 H ∧ H D = some (.lst ys) ∧ Paired (F H) ys (gs.take i)) ⟨Ax hD, AO, .nil⟩ (fun _ _ H _ ⟨s1, _⟩ => s1.seq hl) ?_ ?_
 ·rintro i x ys H hx ⟨s1, e1, pr⟩
  have hi : i < gs.length := by
   have := (List.getElem?_eq_some_iff.mp hx).1
   omega
  obtain ⟨v, hv, t1⟩ := ga.get (List.getElem?_eq_getElem hi)
  have ex : x = V.ref v := by
   rw [List.getElem?_map, hv] at hx
   exact (Option.some.inj hx).symm
  subst ex
  have et : gs.take (i + 1) = gs.take i ++ [gs[i]] := List.take_succ_eq_append_getElem hi
  have hle : ys.length ≤ i := by
   rw [Paired.length pr]
   exact List.length_take_le _ _
  unfold Gc
  dsimp only
  rw [if_pos rfl]
  refine he v gs[i] H _ (List.getElem_mem hi) s1 (s1.get t1) fun y H' s2 fy => ?_
  refine ⟨s2.get e1, by rw [PySem.sizeLine_eq]; omega, _, by omega, rfl, by omega, (s1.trans s2).updFresh hD, AO, ?_⟩
  rw [et]
  have e2 := s2.get e1
  have pr2 := Paired.mapP pr fun v g h => fd _ _ _ _ (ys ++ [y]) e2 (fs _ _ _ _ s2 h)
  have app : ∀ {α β : Type} {F : α → β → Prop} {l : List α} {r : List β} {x : α} {y : β}, Paired F l r → F x y → Paired F (l ++ [x]) (r ++ [y]) := by
   intro α β F l r x y h hxy
   induction h with
   | nil => exact .cons hxy .nil
   | cons h1 _ ih => exact .cons h1 ih
  exact app pr2 (fd _ _ _ _ _ e2 fy)
 ·rintro ys H ⟨s1, e1, pr⟩
  rw [hlen, List.take_length] at pr
  exact hd H ys s1 e1 pr
theorem Paired.eq_map {α β : Type} {f : β → α} : ∀ {xs : List α} {ys : List β}, Paired (fun x y => x = f y) xs ys → xs = ys.map f
 | _, _, .nil => rfl
 | _, _, .cons h t => by rw [List.map_cons, ← Paired.eq_map t, h]
theorem OA {p0 h0 p1 h1 a b c d : Int} (lt : p0 < p1) (L1 : EG (h0 * (p1 - p0) - p0 * (h1 - h0)) (p1 - p0) a b) (L2 : EG (h1 - h0) (p1 - p0) c d) :
  (∀ g : G, (⟨a, b, c, d⟩ : Thr).pas g ↔ ED (h0 * p1 - h1 * p0) (h1 - h0) (p1 - p0) g) ∧ (⟨a, b, c, d⟩ : Thr).gap p0 h0 = 0 ∧ (⟨a, b, c, d⟩ : Thr).gap p1 h1 = 0 := by
 have e1 := L1.eq
 have e2 := L2.eq
 have hb := L1.pos
 have hd := L2.pos
 have hbd : 0 < b * d := Int.mul_pos hb hd
 have hS : 0 < p1 - p0 := by omega
 have eU : h0 * (p1 - p0) - p0 * (h1 - h0) = h0 * p1 - h1 * p0 := by grind
 rw [eU] at e1
 have key : ∀ p, (p1 - p0) * (a * d + c * b * p) = (b * d) * (h0 * p1 - h1 * p0 + (h1 - h0) * p) := fun p => by grind
 refine ⟨fun g => ?_, ?_, ?_⟩
 ·rw [DU]
  unfold ED
  show g.f * (b * d) ≤ a * d + c * b * g.p ∧ a * d + c * b * g.p ≤ g.h * (b * d) ↔ _
  have k := key g.p
  constructor
  ·rintro ⟨q1, q2⟩
   have r1 := Int.mul_le_mul_of_nonneg_left q1 (Int.le_of_lt hS)
   have r2 := Int.mul_le_mul_of_nonneg_left q2 (Int.le_of_lt hS)
   rw [k] at r1 r2
   refine ⟨Int.le_of_mul_le_mul_left (a := b * d) ?_ hbd, Int.le_of_mul_le_mul_left (a := b * d) ?_ hbd⟩
   ·rw [show b * d * (g.f * (p1 - p0)) = (p1 - p0) * (g.f * (b * d)) by grind]; exact r1
   ·rw [show b * d * (g.h * (p1 - p0)) = (p1 - p0) * (g.h * (b * d)) by grind]; exact r2
  ·rintro ⟨q1, q2⟩
   have r1 := Int.mul_le_mul_of_nonneg_left q1 (Int.le_of_lt hbd)
   have r2 := Int.mul_le_mul_of_nonneg_left q2 (Int.le_of_lt hbd)
   rw [← k] at r1 r2
   refine ⟨Int.le_of_mul_le_mul_left (a := p1 - p0) ?_ hS, Int.le_of_mul_le_mul_left (a := p1 - p0) ?_ hS⟩
   ·rw [show (p1 - p0) * (g.f * (b * d)) = b * d * (g.f * (p1 - p0)) by grind]; exact r1
   ·rw [show (p1 - p0) * (g.h * (b * d)) = b * d * (g.h * (p1 - p0)) by grind]; exact r2
 ·show a * d + c * p0 * b - h0 * b * d = 0
  have k := key p0
  have hz : (p1 - p0) * (a * d + c * p0 * b - h0 * b * d) = 0 := by grind
  rcases Int.mul_eq_zero.mp hz with z | z
  ·omega
  ·exact z
 ·show a * d + c * p1 * b - h1 * b * d = 0
  have k := key p1
  have hz : (p1 - p0) * (a * d + c * p1 * b - h1 * b * d) = 0 := by grind
  rcases Int.mul_eq_zero.mp hz with z | z
  ·omega
  ·exact z
theorem P5 {p0 h0 p1 h1 a b c d : Int} (b0 : p0.natAbs ≤ 1000) (b1 : h0.natAbs ≤ 1000) (b2 : p1.natAbs ≤ 1000) (b3 : h1.natAbs ≤ 1000) (L1 : EG (h0 * (p1 - p0) - p0 * (h1 - h0)) (p1 - p0) a b) (L2 : EG (h1 - h0) (p1 - p0) c d) : OkT ⟨a, b, c, d⟩ := by
 have m1 := Bu (m := 1000) (n := 2000) b1 (show (p1 - p0).natAbs ≤ 2000 by clear L1 L2 b1 b3; omega)
 have m2 := Bu (m := 1000) (n := 2000) b0 (show (h1 - h0).natAbs ≤ 2000 by clear L1 L2 m1 b0 b2; omega)
 have t1 : (h0 * (p1 - p0) - p0 * (h1 - h0)).natAbs ≤ 1000 * 2000 + 1000 * 2000 := Nat.le_trans (Int.natAbs_sub_le _ _) (Nat.add_le_add m1 m2)
 have s1 : (p1 - p0).natAbs ≤ 2000 := by clear m1 m2 t1 L1 L2 b1 b3; omega
 have s2 : (h1 - h0).natAbs ≤ 2000 := by clear m1 m2 t1 L1 L2 b0 b2; omega
 exact ⟨Nat.le_trans L1.absx (Nat.le_trans t1 (by decide)), Nat.le_trans L1.absy (Nat.le_trans s1 (by decide)), Nat.le_trans L2.absx (Nat.le_trans s2 (by decide)), Nat.le_trans L2.absy (Nat.le_trans s1 (by decide)), L1.pos, L2.pos, L1.one, L2.one⟩
def LeR (x y u v : G) : Prop := (y.h - x.f) * (v.p - u.p) ≤ (v.h - u.f) * (y.p - x.p)
theorem LeR.refl (x y : G) : LeR x y x y := Int.le_refl _
theorem LeR.trans {x y u v u' v' : G} (l0 : x.p < y.p) (l1 : u.p < v.p) (l2 : u'.p < v'.p) (h1 : LeR x y u v) (h2 : LeR u v u' v') : LeR x y u' v' := by
 unfold LeR at *
 have r1 := Int.mul_le_mul_of_nonneg_right h1 (show 0 ≤ v'.p - u'.p by omega)
 have r2 := Int.mul_le_mul_of_nonneg_right h2 (show 0 ≤ y.p - x.p by omega)
 refine Int.le_of_mul_le_mul_left (a := v.p - u.p) ?_ (by omega)
 have e1 : (v.p - u.p) * ((y.h - x.f) * (v'.p - u'.p)) = (y.h - x.f) * (v.p - u.p) * (v'.p - u'.p) := by grind
 have e2 : (v.p - u.p) * ((v'.h - u'.f) * (y.p - x.p)) = (v'.h - u'.f) * (v.p - u.p) * (y.p - x.p) := by grind
 have e3 : (v.h - u.f) * (y.p - x.p) * (v'.p - u'.p) = (v.h - u.f) * (v'.p - u'.p) * (y.p - x.p) := by grind
 rw [e1, e2]
 rw [e3] at r1
 exact Int.le_trans r1 r2
structure Sx (H : Hp) (D : Addr) (gs : List G) (q : Addr) (t : Thr) (x y : G) : Prop where
 eD : H D = some (.tup [.ref q, .int x.p, .int y.p])
 eq : H q = some (.tup t.vs)
 ok : OkT t
 all : ∀ g ∈ gs, t.pas g
 hx : x ∈ gs
 hy : y ∈ gs
 lt : x.p < y.p
 tx : t.gap x.p x.f = 0
 ty : t.gap y.p y.h = 0
theorem Hk {gs : List G} (ha : Asc gs) (ok : ∀ g ∈ gs, OkG g) {x y : G} (hx : x ∈ gs) (hy : y ∈ gs) (lt : x.p < y.p) (least : ∀ x' ∈ gs, ∀ y' ∈ gs, x'.p < y'.p → LeR x y x' y') (hn : ¬ ∀ g ∈ gs, ED (x.f * y.p - y.h * x.p) (y.h - x.f) (y.p - x.p) g) : ¬ BK gs := fun nb =>
 hn (Kr ok hx hy lt least (fun g hg g' hg' e => LX ha hg hg' e) (fun m hm l z => GU ha nb hm hx hy l lt (.inl z)) (fun m hm l z => GU ha nb hx hy hm lt l (.inr z)))
theorem NO {gs sg : List G} (hp : sg.Perm gs) (ha : Asc sg) (hb : ¬ BK sg) {t : List Int} (h : BX gs t) : t ≠ [] := by
 rcases h with ⟨sg', hp', ha', hn, rfl⟩ | ⟨_, _, _, _, _, _, _, _, _, _, _, _, _, rfl⟩
 ·have e := A7 ha' ha (hp'.trans hp.symm)
  subst e
  exact absurd hn hb
 ·simp
def Bq (g : G) : G := ⟨g.p, -g.h, -g.f⟩
def MK (t : Thr) : Thr := ⟨-t.a, t.b, -t.c, t.d⟩
theorem Sn {g : G} (h : OkG g) : OkG (Bq g) := by
 obtain ⟨h1, h2, h3, h4, h5⟩ := h
 exact ⟨h1, h2, by show -1000 ≤ -g.h; omega, by show -g.h ≤ -g.f; omega, by show -g.f ≤ 1000; omega⟩
theorem Rk {t : Thr} (h : OkT t) : OkT (MK t) := by
 obtain ⟨h1, h2, h3, h4, h5, h6, h7, h8⟩ := h
 exact ⟨by show (-t.a).natAbs ≤ _; omega, h2, by show (-t.c).natAbs ≤ _; omega, h4, h5, h6, by show Int.gcd (-t.a) t.b = 1; rw [Int.neg_gcd]; exact h7, by show Int.gcd (-t.c) t.d = 1; rw [Int.neg_gcd]; exact h8⟩
theorem Q2 {t : Thr} {g : G} : (MK t).pas g ↔ t.pas (Bq g) := by
 show Pas (-t.a) t.b (-t.c) t.d g.p g.f g.h ↔ Pas t.a t.b t.c t.d g.p (-g.h) (-g.f)
 unfold Pas
 have e1 : -t.a * t.d + g.p * -t.c * t.b = -(t.a * t.d + g.p * t.c * t.b) := by grind
 have e2 : -g.h * (t.b * t.d) = -(g.h * (t.b * t.d)) := by grind
 have e3 : -g.f * (t.b * t.d) = -(g.f * (t.b * t.d)) := by grind
 rw [e1, e2, e3]
 generalize t.a * t.d + g.p * t.c * t.b = A
 generalize g.h * (t.b * t.d) = B
 generalize g.f * (t.b * t.d) = C
 constructor <;> (rintro ⟨h1, h2⟩; exact ⟨by omega, by omega⟩)
theorem Rq {gs : List G} (h : Asc gs) : Asc (gs.map Bq) := by
 unfold Asc
 rw [List.pairwise_map]
 exact h
theorem QX {a b c : G} : LR (Bq a) (Bq b) (Bq c) ↔ LR a b c := by
 have e1 : Bf (Bq a) (Bq b) (Bq c) ↔ Bl a b c := by
  show -a.f * (c.p - b.p) + -c.f * (b.p - a.p) < -b.h * (c.p - a.p) ↔ b.h * (c.p - a.p) < a.f * (c.p - b.p) + c.f * (b.p - a.p)
  have q1 : -a.f * (c.p - b.p) + -c.f * (b.p - a.p) = -(a.f * (c.p - b.p) + c.f * (b.p - a.p)) := by grind
  have q2 : -b.h * (c.p - a.p) = -(b.h * (c.p - a.p)) := by grind
  rw [q1, q2]
  generalize a.f * (c.p - b.p) + c.f * (b.p - a.p) = A
  generalize b.h * (c.p - a.p) = B
  constructor <;> (intro h; omega)
 have e2 : Bl (Bq a) (Bq b) (Bq c) ↔ Bf a b c := by
  show -b.f * (c.p - a.p) < -a.h * (c.p - b.p) + -c.h * (b.p - a.p) ↔ a.h * (c.p - b.p) + c.h * (b.p - a.p) < b.f * (c.p - a.p)
  have q1 : -a.h * (c.p - b.p) + -c.h * (b.p - a.p) = -(a.h * (c.p - b.p) + c.h * (b.p - a.p)) := by grind
  have q2 : -b.f * (c.p - a.p) = -(b.f * (c.p - a.p)) := by grind
  rw [q1, q2]
  generalize a.h * (c.p - b.p) + c.h * (b.p - a.p) = A
  generalize b.f * (c.p - a.p) = B
  constructor <;> (intro h; omega)
 unfold LR
 rw [e1, e2]
 exact Or.comm
theorem PY {gs : List G} (h : BK gs) : BK (gs.map Bq) := fun i j k ⟨h1, h2, a, b, c, e1, e2, e3, hb⟩ => by
 rw [List.getElem?_map] at e1 e2 e3
 obtain ⟨a', f1, rfl⟩ := Option.map_eq_some_iff.mp e1
 obtain ⟨b', f2, rfl⟩ := Option.map_eq_some_iff.mp e2
 obtain ⟨c', f3, rfl⟩ := Option.map_eq_some_iff.mp e3
 exact h i j k ⟨h1, h2, a', b', c', f1, f2, f3, QX.mp hb⟩
theorem GE.updL {H : Hp} {a R : Addr} {r : Run} {xs ys : List V} (h : GE H a r) (hR : H R = some (.lst xs)) : GE (L2.upd H R (.lst ys)) a r := by
 obtain ⟨q, e1, e2, e3⟩ := h
 exact ⟨q, by rw [AG (GG e1 hR (by intro z; cases z))]; exact e1, by rw [AG (GG e2 hR (by intro z; cases z))]; exact e2, e3⟩
theorem ON : ∀ {rs : List Run} {r r' : Run}, Far (rs ++ [r]) → ¬ BK (r.all ++ [r'.g]) → Far (rs ++ [r] ++ [r'])
 | [], _, _, _, h => ⟨h, trivial⟩
 | [a], r, r', h1, h => ⟨h1.1, h, trivial⟩
 | a :: b :: rs, r, r', h1, h => ⟨h1.1, ON (rs := b :: rs) h1.2 h⟩
theorem OR : ∀ {rs : List Run} {r r' : Run}, Far (rs ++ [r]) → r.g = r'.g → Far (rs ++ [r'])
 | [], _, _, _, _ => trivial
 | [a], r, r', h1, e => ⟨by rw [← e]; exact h1.1, trivial⟩
 | a :: b :: rs, r, r', h1, e => ⟨h1.1, OR (rs := b :: rs) h1.2 e⟩
theorem N0 (r : Run) : [r].flatMap Run.all = r.all := by simp
theorem Asc.take' {gs : List G} (h : Asc gs) (n : Nat) : Asc (gs.take n) := List.Pairwise.sublist (List.take_sublist n gs) h
theorem Asc.right {xs ys : List G} (h : Asc (xs ++ ys)) : Asc ys := (List.pairwise_append.mp h).2.1
theorem L5 (g : G) (rest : List G) (t : Thr) : ∃ pre, g :: rest = pre ++ [(⟨g, rest, t⟩ : Run).last] := by
 induction rest generalizing g with
 | nil => exact ⟨[], rfl⟩
 | cons a r ih =>
  obtain ⟨pre, e⟩ := ih a
  refine ⟨g :: pre, ?_⟩
  have e2 : (⟨g, a :: r, t⟩ : Run).last = (⟨a, r, t⟩ : Run).last := List.getLastD_cons ..
  rw [e2, List.cons_append, ← e]
theorem QV {H : Hp} {as : List Addr} {pre : List G} {g : G} (h : Ab H as (pre ++ [g])) : ∃ bs a, as = bs ++ [a] ∧ H a = some (.tup (G.vs g)) := by
 have hl := h.len
 rw [List.length_append] at hl
 have hne : as ≠ [] := fun z => by rw [z] at hl; simp at hl
 obtain ⟨a, ha, ea⟩ := h.get (i := pre.length) (g := g) (by simp)
 refine ⟨as.dropLast, as.getLast hne, (List.dropLast_concat_getLast hne).symm, ?_⟩
 have e : as.getLast hne = a := by
  rw [List.getLast_eq_getElem]
  have := (List.getElem?_eq_some_iff.mp ha).2
  rw [← this]
  congr 1
  simp at hl
  omega
 rw [e]
 exact ea
end TG
set_option Elab.async false
set_option linter.all false
set_option maxRecDepth 100000
set_option maxHeartbeats 4000000
namespace L2
open PySem PySem.Spec PyProof.Rows
theorem As.here {P : Program} {w : World} {H : Hp} {h : Heap} {a : Addr} {o : HO} (x : As P w H h a o) : ∃ ob, h.get? a = some ob := by
 cases q : h.get? a with
 | some ob => exact ⟨ob, rfl⟩
 | none =>
  exfalso
  have x' : As P w H h a o := x
  induction o with
  | lst xs => obtain ⟨_, _, _, _, e⟩ := x'; rw [q] at e; cases e
  | tup xs => obtain ⟨_, _, _, o, e, _⟩ := x'; rw [q] at e; cases e
  | dK kvs => obtain ⟨_, _, _, _, o, _, _, e, _⟩ := x'; rw [q] at e; cases e
  | dT kvs => obtain ⟨_, _, _, _, o, _, _, e, _⟩ := x'; rw [q] at e; cases e
  | set S n => obtain ⟨o, _, _, _, e, _⟩ := x'; rw [q] at e; cases e
  | ins C dx fs => obtain ⟨_, _, _, e, _⟩ := x'; rw [q] at e; cases e
  | own b => obtain ⟨o, e⟩ := x'; rw [q] at e; cases e
  | xd fs => obtain ⟨_, ⟨o, _, _, e, _⟩, _⟩ := x'; rw [q] at e; cases e
  | rng lo hi => obtain ⟨_, _, _, e⟩ := x'; rw [q] at e; cases e
  | frz o u ih => exact ih x'.2 x'.2
  | tbl ps => have e : h.get? a = _ := x'; rw [q] at e; cases e
  | met f y => have e : h.get? a = _ := x'; rw [q] at e; cases e
  | ext φ => obtain ⟨_, ⟨o, e⟩, _⟩ := x'; rw [q] at e; cases e
def Fly (l : List Env) (hs : Heap) (H' : Hp) (ea : Addr) (cls : Value) (h : Heap) : Prop :=
 ∃ (B : Heap) (a0 : Value), Heap.FlyingW B l ea cls a0 h ∧ (∀ b o, hs.get? b = some o → b ∉ frs l → ∃ o', B.get? b = some o') ∧ ∀ b, H' b ≠ none → ∃ o', B.get? b = some o'
def CXE (P : Program) (w : World) : CXT := fun outer H s E e s' => ∃ (ea : Addr) (cls : Value) (H' : Hp), e = .ref ea ∧ s'.os = s.os ∧ AllBare s'.gens ∧ Un (frs outer) [] H H' s.heap s'.heap ∧ HOk P w H' s'.heap ∧ Fly outer s.heap H' ea cls s'.heap ∧ E cls none H'
section
variable {X : Cx} {pins : List (Addr × Obj)} {σ σ1 : St} {H H1 H' : Hp} {s s1 s' : Shared} {h' B : Heap} {ea : Addr} {cls : Value}
theorem Inv.notStack (I : Inv X pins σ H s) {b : Addr} {o : Obj} (e : X.s₀.heap.get? b = some o) (hb : b ∉ X.fs) : b ∉ frs X.stack := fun hm => by
 rcases List.mem_cons.mp (I.stkSub b hm) with z | z
 ·exact absurd (Nat.lt_of_lt_of_le (Heap.lt_size e) I.ok.above) (by rw [z]; exact Nat.lt_irrefl _)
 ·exact hb z
theorem Inv.fly (I1 : Inv X pins σ1 H1 s1) (I : Inv X pins σ H s) (hB : B.StaysIn s.heap) (hB' : B.StaysIn h') (up : s.heap.UpToSlots h')
  (c1 : ∀ b o, s1.heap.get? b = some o → b ∉ frs X.stack → ∃ o', B.get? b = some o') (c2 : ∀ b, H b ≠ none → ∃ o', B.get? b = some o') : Inv X pins σ H { s with heap := h' } := by
 have via : ∀ b o, s.heap.get? b = some o → (∃ o', B.get? b = some o') → h'.get? b = some o := fun b o e ⟨o', eb⟩ => by
  have := hB b o' eb
  rw [e] at this
  cases this
  exact hB' b o eb
 have slot : ∀ b o, X.s₀.heap.get? b = some o → X.H₀ b = none → b ∈ X.fs → b ∉ X.ex → ∃ sl, h'.get? b = some { o with slots := sl } := fun b o e n hb hx => by
  obtain ⟨sl, e1⟩ := I.base.slot b o e n hb hx
  obtain ⟨_, of, hof, hnf⟩ := I.ok.funs.mem hb
  rw [e] at hof
  cases hof
  obtain ⟨sl', e2⟩ := up b _ e1 hnf
  exact ⟨sl', e2⟩
 have cellK : ∀ c v, s.heap.IsCell c v → h'.IsCell c v := fun c v ⟨o, ho, hd⟩ => by
  obtain ⟨sl, e⟩ := up c o ho (fun vs q => by rw [hd] at q; cases q)
  exact ⟨_, e, hd⟩
 refine ⟨I.ok, I.os, I.bare, ⟨fun b o e n hb hx => ?_, slot, I.base.free, fun b o e hx => ?_, I.base.tups, I.base.frzs, I.base.tbls⟩, ?_, fun x c e => ?_, I.free, I.freeC, fun p hp => ?_, fun b u e => ?_, I.len⟩
 ·exact via b o (I.base.keep b o e n hb hx) (c1 b o (I1.base.keep b o e n hb hx) (I.notStack e hb))
 ·by_cases hb : b ∈ X.fs
  ·obtain ⟨sl, q⟩ := slot b o e (I.ok.frf b hb) hb hx
   exact ⟨_, q⟩
  ·obtain ⟨o1, a1⟩ := I1.base.there b o e hx
   obtain ⟨o', eb⟩ := c1 b o1 a1 (I.notStack e hb)
   exact ⟨o', hB' b o' eb⟩
 ·obtain ⟨m, hn, hl⟩ := I.loc
  refine ⟨m, up.ns hn, fun i x v e1 e2 e3 => ?_⟩
  obtain ⟨u, r, l⟩ := hl i x v e1 e2 e3
  refine ⟨u, r, ?_⟩
  rcases l with l | ⟨k, c, e, z⟩
  ·exact .inl l
  ·exact .inr ⟨k, c, e, cellK c _ z⟩
 ·obtain ⟨v, z⟩ := I.cell x c e
  exact ⟨v, cellK c v z⟩
 ·obtain ⟨e, n, ne, nf, d⟩ := I.pin p hp
  refine ⟨via p.1 p.2 e (c1 p.1 p.2 (I1.pin p hp).1 fun hm => ?_), n, ne, nf, d⟩
  rcases List.mem_cons.mp (I.stkSub _ hm) with z | z
  ·exact ne z
  ·exact nf z
 ·refine (I.hok b u e).stay (fun c v hc q => via c v q (c2 c ?_)) (fun _ q => q) fun _ _ q => q
  rcases hc with z | z
  ·rw [z, e]; simp
  ·rw [z]; simp
structure Arr (X : Cx) (pins : List (Addr × Obj)) (σ : St) (ea : Addr) (cls : Value) (H' : Hp) (s' : Shared) : Prop where
 inv : Inv X pins σ H' s'
 fly : ∃ (H1 : Hp) (s1 : Shared), Inv X pins σ H1 s1 ∧ Fly X.stack s1.heap H' ea cls s'.heap
theorem T2 {E : XK} {e : Value} (I : Inv X pins σ H s) (h : CXE X.prog X.w X.stack H s E e s') : ∃ ea cls H', e = .ref ea ∧ Arr X pins σ ea cls H' s' ∧ E cls none H' := by
 obtain ⟨ea, cls, H', rfl, os, bare, un, hok, fl, hE⟩ := h
 exact ⟨ea, cls, H', rfl, ⟨I.call' (ch := []) os un hok bare (fun b z => absurd z (by simp)), H, s, I, fl⟩, hE⟩
end
section
variable {P : Program} {w : World} {K : PySem.W.Frag} {mg : Str → Option Value} {base : Heap} {N : List Str} {qual : Str} {scope : Scope} {f : Addr} {cd : Value} {A : Around} {outer : List Env} {s : Shared} {H : Hp} {E : XK}
 {pins : List (Addr × Obj)} {σ : St} {H1 H' : Hp} {s1 s' : Shared} {ea : Addr} {cls : Value} {h' : Heap} {args : List Value}
theorem WC (a : Arr (Ez (CXE P w) P w K mg base N qual scope f cd A outer s H E) pins σ ea cls H' s') (hE : E cls none H') : (Ez (CXE P w) P w K mg base N qual scope f cd A outer s H E).xe (.ref ea) s' := by
 obtain ⟨I, H1, s1, I1, B, a0, fl, c1, c2⟩ := a
 refine wpAny_leaves_onW (A := A.deeper (envOfC qual scope s.heap.objs.size f cd)) (env := envOfC qual scope s.heap.objs.size f cd) (outer := outer) I.ok.frames rfl fl fun h' fl' up => ?_
 have I2 := Inv.fly I1 I fl.1 fl'.1 up c1 c2
 refine ⟨ea, cls, H', rfl, I2.os, I2.bare, I2.base, I2.hok, ⟨B, a0, fl', fun b o e hb => ?_, c2⟩, hE⟩
 obtain ⟨o1, a1⟩ := I1.base.there b o e (fun z => absurd (show b ∈ ([] : List Addr) from z) (by simp))
 exact c1 b o1 a1 (I.notStack e hb)
theorem Sw (I : Inv (Ez (CXE P w) P w K mg base N qual scope f cd A outer s H E) pins σ H1 s1) (hx : Heap.MadeExcOf s1.heap h' ea cls args) (hE : E cls none H1) : (Ez (CXE P w) P w K mg base N qual scope f cd A outer s H E).xe (.ref ea) { s1 with heap := h' } := by
 have hin : ∀ env ∈ (envOfC qual scope s.heap.objs.size f cd :: outer), ∀ b, env.frame = some b → b ∈ frs (envOfC qual scope s.heap.objs.size f cd :: outer) := fun env he b hb => List.mem_filterMap.mpr ⟨env, he, hb⟩
 have hfun : s1.heap.FunFrames (PySem.W.hideAll s1.heap (frs (envOfC qual scope s.heap.objs.size f cd :: outer))) (envOfC qual scope s.heap.objs.size f cd :: outer) := PySem.W.funFrames_hide I.stack hin
 have c1 : ∀ b o, s1.heap.get? b = some o → b ∉ frs (envOfC qual scope s.heap.objs.size f cd :: outer) → ∃ o', (PySem.W.hideAll s1.heap (frs (envOfC qual scope s.heap.objs.size f cd :: outer))).get? b = some o' := fun b o e hb => ⟨o, PySem.W.hideAll_get _ e hb⟩
 have c2 : ∀ b, H1 b ≠ none → ∃ o', (PySem.W.hideAll s1.heap (frs (envOfC qual scope s.heap.objs.size f cd :: outer))).get? b = some o' := fun b n => by
  cases q : H1 b with
  | none => exact absurd q n
  | some o =>
   obtain ⟨ob, e⟩ := (I.hok b o q).here
   exact ⟨ob, PySem.W.hideAll_get _ e fun z => by rw [I.stkFree b z] at q; cases q⟩
 refine wpAny_leaves_madeW (A := A.deeper (envOfC qual scope s.heap.objs.size f cd)) (s := { s1 with heap := h' }) (env := envOfC qual scope s.heap.objs.size f cd) (outer := outer) I.ok.frames rfl (fun b o q => PySem.W.of_hideAll _ q) hfun hx fun h'' t fl tup tn up => ?_
 have I' : Inv (Ez (CXE P w) P w K mg base N qual scope f cd A outer s H E) pins σ H1 { s1 with heap := h' } := I.kept (t' := s1.toks) hx.keeps
 have I2 := Inv.fly (h' := h'') I I' (fun b o q => hx.keeps b o (PySem.W.of_hideAll _ q)) fl.1 up c1 c2
 refine ⟨ea, cls, H1, rfl, I2.os, I2.bare, I2.base, I2.hok, ⟨_, _, fl, fun b o e hb => ?_, c2⟩, hE⟩
 obtain ⟨o1, a1⟩ := I.base.there b o e (fun z => absurd (show b ∈ ([] : List Addr) from z) (by simp))
 exact c1 b o1 a1 (I.notStack e hb)
theorem J8 : Dv (CXE P w) (Ez (CXE P w) P w K mg base N qual scope f cd A outer s H E) E := fun pins σ H s e s' I h => by
 obtain ⟨ea, cls, H', rfl, arr, hE⟩ := T2 I h
 exact WC arr hE
theorem VE : PassesOwn (model P w) (Ez (CXE P w) P w K mg base N qual scope f cd A outer s H E).A (Ez (CXE P w) P w K mg base N qual scope f cd A outer s H E).env (Ez (CXE P w) P w K mg base N qual scope f cd A outer s H E).xe := PassesOwn.leaving (Q₁ := fun e s'' => CXE P w outer H s E e s'')
theorem Fun.okX {x qual : Str} {st : Stmt} {f : Addr} {fd : FuncData} {N ps : List Str} {k : Nat} {sp : Sp} (F : Fun K x qual st f fd) (S : AN N ps (AF st)) (len : ∀ vs H Q E, sp vs H Q E → vs.length = ps.length)
  (hbody : ∀ (cdv : Value) (A : Around) (outer : List Env) (s : Shared) (H : Hp) (vs : List V) (Q : VK) (E : XK), Bz k (A.deeper (envOfC qual (AF st) s.heap.objs.size f cdv)) → sp vs H Q E →
   ∃ t, PSs (Ez (CXE P w) P w K mg base N qual (AF st) f cdv A outer s H E) (Bk st) t ∧ t { nx := fun _ H' => Q .non H', rt := Q } (start N vs) H) : Ah P w K mg base (CXE P w) (k + 1) f fd ps sp := by
 obtain ⟨oc, od, kV, doc, pm, an, cdv, ct, osl, rfl, lk, hcd⟩ := F.ex
 exact Ri lk hcd S len fun A outer s H vs Q E hr hsp => hbody cdv A outer s H vs Q E hr hsp
end
structure DM (K : PySem.W.Frag) (C : Addr) (x qual : Str) (st : Stmt) (ps : List Str) (f : Addr) (fd : FuncData) : Prop where
 F : Fun K x qual st f fd
 mt : TB K C x f
 b : Binds K fd ps []
abbrev bmV : List Value := [.type "ValueError", .type "Exception", .type "BaseException", .type "object"]
abbrev FV (K : PySem.W.Frag) (C : Addr) : Prop := PySem.W.excIn K C bmV "ValueError.__new__" = true
theorem toArr {α : Type} {sl : Array α} {l : List α} (e : sl.toList = l) : sl = l.toArray := by rw [← e]
theorem FV.rec {K : PySem.W.Frag} {C : Addr} (q : FV K C) : ∃ (dd : Option Addr) (cd : ClassData) (bm : List Value) (k0 k1 k2 k3 k5 : Option Value),
  K.lookup C = some ⟨.type "type", dd, .cls cd, #[k0, k1, k2, k3, some (.builtin "ValueError.__new__"), k5]⟩ ∧ cd.mro = .ref C :: bm ∧ cd.hasDel = false ∧ PySem.W.tailIn K bmV bm = true ∧ PySem.W.nsOkIn K cd.ns = true ∧ PySem.W.nsIn K cd.ns "__init__" = some none := by
 simp only [FV, PySem.W.excIn] at q
 repeat' split at q
 all_goals first | exact absurd q Bool.false_ne_true | skip
 next dd cd sl hK mr ll C' bm k0 k1 k2 k3 n k5 e1 e2 =>
  rw [toArr e2] at hK
  simp only [Bool.and_eq_true] at q
  obtain ⟨⟨⟨⟨⟨h1, h2⟩, h3⟩, h4⟩, h5⟩, h6⟩ := q
  have h1 : C' = C := by simpa using h1
  have h2 : n = "ValueError.__new__" := by simpa using h2
  subst h1 h2
  exact ⟨dd, cd, bm, k0, k1, k2, k3, k5, hK, e1, by simpa using h3, h4, h5, by simpa using h6⟩
theorem FV.own {K : PySem.W.Frag} {C : Addr} {x : Str} {mg : Str → Option Value} {h : Heap} (q : FV K C) (X : K.In h) (hm : mg x = some (.ref C)) : OwnCls x C bmV "ValueError.__new__" mg h := by
 obtain ⟨dd, cd, bm, k0, k1, k2, k3, k5, hK, e1, e2, e3, e4, e5⟩ := q.rec
 have ns : h.Ns cd.ns (h.nsMap cd.ns) := .of_isNs (PySem.W.isNs_of_in X e4)
 have no : h.nsMap cd.ns "__init__" = none := PySem.W.nsMap_none_of_in X e4 e5
 have tl := PySem.W.tail_of_in X e3
 rcases cd with ⟨a1, a2, a3, a4, a5, a6, a7, a8, a9, a10, a11⟩
 simp only at e1 e2
 subst e1 e2
 exact ⟨hm, bm, a4, a1, a5, a2, a6, a7, a8, a9, a10, dd, k0, k1, k2, k3, k5, _, X _ _ hK, ns, no, tl⟩
def TW (X : Cx) (E : XK) : Prop := ∀ (pins : List (Addr × Obj)) (σ : St) (H : Hp) (s : Shared) (h' : Heap) (ea : Addr) (cls : Value) (args : List Value), Inv X pins σ H s → Heap.MadeExcOf s.heap h' ea cls args → E cls none H → X.xe (.ref ea) { s with heap := h' }
theorem EI {P : Program} {w : World} {K : PySem.W.Frag} {mg : Str → Option Value} {base : Heap} {N : List Str} {qual : Str} {scope : Scope} {f : Addr} {cd : Value} {A : Around} {outer : List Env} {s : Shared} {H : Hp} {E : XK} : TW (Ez (CXE P w) P w K mg base N qual scope f cd A outer s H E) E := fun _ _ _ _ _ _ _ _ I hx hE => Sw I hx hE
section
variable {X : Cx} {E : XK} {x : Str} {C : Addr} {np cpos pos : Pos} {e : Expr} {es : List Expr} {t : TA}
def Hb (C : Addr) (E : XK) (t : TA) : TS := fun _ σ H => t σ H fun vs H1 => vs.length ≤ sizeLine ∧ E (.ref C) none H1
theorem BH (hp : TW X E) (hc : X.calm = true) (q : FV X.K C) (hg : Gl X x) (hm : X.mg x = some (.ref C)) (ha : PA X (e :: es) t) (hdb : (x == ("__debug__" : Str)) = false := by decide)
  (he : starEach (e :: es) X.env = (false, eval e X.env) :: starEach es X.env := by rfl) (hpl : (backTo cpos (starEach es X.env)).any (·.1) = false := by rfl) :
  PS X (.Raise (some (.Call (.Name x np) (e :: es) [] cpos)) none pos) (Hb C E t) := by
 intro pins s σ H D I h
 obtain ⟨tl, N, nm, q', bs, hdct, sn, sub, ab, col, dd, k0, k1, k2, k3, k5, mN, hC, hN, hni, T⟩ := (FV.own q I.mod.kin hm).obj
 refine wpAny_Raise_call_subT (C := C) (nm := nm) (q := q') (N := N) (bs := bs) (bm := tl) (hdct := hdct) (sn := sn) (sub := sub) (ab := ab) (col := col) (dd := dd) (k0 := k0) (k1 := k1) (k2 := k2) (k3 := k3) (k5 := k5)
  PySem.F.excBase_ValueError (mN := mN) (T.hasType PySem.F.excBase_ValueError.hasBase) (I.ok.hd hc) (by rw [he]; show (false || (backTo cpos (starEach es X.env)).any (·.1)) = false; rw [hpl]; rfl) hni (KW I hg hm ⟨rfl, ?_⟩ hdb)
 have hs := ha cpos pins s σ H _ I h
 rw [he] at hs ⊢
 refine Calls.evalArgs_plain (thn hs fun us s1 ⟨vs, H1, I1, r, z, hE⟩ => ?_)
 exact ⟨rfl, by rw [← r.length]; exact z, I1.bk _ _ hC, hN.keeps I1.bk, T.keeps I1.bk, fun h' ea hx => hp pins σ H1 s1 h' ea (.ref C) us I1 hx hE⟩
end
section
variable {X : Cx} {k : Nat} {f C : Addr} {fd : FuncData} {ps : List Str} {sp : Sp} {dvs : List V} {ds : List Value} {N : Value → St → Hp → Prop} {x m : Str} {p pos apos : Pos} {e o : Expr} {es : List Expr} {ta : TE} {t : TA}
end
section
variable {X : Cx} {pins : List (Addr × Obj)} {D : Ld}
end
end L2
set_option Elab.async false
set_option linter.all false
set_option maxRecDepth 100000
set_option maxHeartbeats 4000000
namespace L2
open PySem PySem.Spec PyProof.Rows
section
variable {X : Cx}
end
end L2
set_option Elab.async false
set_option linter.all false
set_option maxRecDepth 100000
set_option maxHeartbeats 4000000
namespace L2
open PySem
theorem len0 {α : Type} {us : List α} (h : us.length = 0) : us = [] := List.length_eq_zero_iff.mp h
theorem RV {α : Type} {us : List α} {n : Nat} (h : us.length = n + 1) : ∃ a r, us = a :: r ∧ r.length = n := by
 cases us with
 | nil => cases h
 | cons a r => exact ⟨a, r, rfl, Nat.succ.inj h⟩
theorem Cq {α : Type} {us : List α} (h : us.length = 1) : ∃ a, us = [a] := by
 obtain ⟨a, r, rfl, h'⟩ := RV h; cases len0 h'; exact ⟨a, rfl⟩
theorem DX {α : Type} {us : List α} (h : us.length = 2) : ∃ a b, us = [a, b] := by
 obtain ⟨a, r, rfl, h'⟩ := RV h; obtain ⟨b, rfl⟩ := Cq h'; exact ⟨a, b, rfl⟩
theorem L0 {α : Type} {us : List α} (h : us.length = 3) : ∃ a b c, us = [a, b, c] := by
 obtain ⟨a, r, rfl, h'⟩ := RV h; obtain ⟨b, c, rfl⟩ := DX h'; exact ⟨a, b, c, rfl⟩
theorem Sr {α : Type} {us : List α} (h : us.length = 4) : ∃ a b c d, us = [a, b, c, d] := by
 obtain ⟨a, r, rfl, h'⟩ := RV h; obtain ⟨b, c, d, rfl⟩ := L0 h'; exact ⟨a, b, c, d, rfl⟩
theorem len5 {α : Type} {us : List α} (h : us.length = 5) : ∃ a b c d e, us = [a, b, c, d, e] := by
 obtain ⟨a, r, rfl, h'⟩ := RV h; obtain ⟨b, c, d, e, rfl⟩ := Sr h'; exact ⟨a, b, c, d, e, rfl⟩
end L2
namespace TG
open PySem L2
inductive Err where
 | nogate | taken | upside | bounds | full | deeds | nothing | badlist | few | size | badthrow | badrow
 deriving DecidableEq
def Kp (b P : Addr) (H H' : Hp) : Prop := ∀ a u, a ≠ b → a ≠ P → H a = some u → H' a = some u
theorem Kp.of {b P : Addr} {H H' : Hp} (s : AH H H') : Kp b P H H' := fun a u _ _ e => s a u e
theorem Kp.trans {b P : Addr} {H H1 H2 : Hp} (k : Kp b P H H1) (k' : Kp b P H1 H2) : Kp b P H H2 := fun a u h1 h2 e => k' a u h1 h2 (k a u h1 h2 e)
theorem Kp.upd {b P a : Addr} {H H1 : Hp} {o : HO} (k : Kp b P H H1) (h : a = b ∨ a = P) : Kp b P H (L2.upd H1 a o) := fun c u h1 h2 e => by
 have hc : c ≠ a := by rcases h with rfl | rfl <;> assumption
 rw [AG hc]
 exact k c u h1 h2 e
def RJ (H : Hp) (l : Addr) (gs : List G) : Prop := ∃ as : List Addr, H l = some (.lst (as.map V.ref)) ∧ Ab H as gs
structure Std (gs : List G) : Prop where
 asc : Asc gs
 ok : ∀ g ∈ gs, OkG g
 len : gs.length ≤ 40
theorem QI {gs : List G} (h : Asc gs) : (gs.map G.p).Nodup := by
 unfold List.Nodup
 rw [List.pairwise_map]
 exact h.imp fun {a b} h z => by omega
theorem Std.nd {gs : List G} (h : Std gs) : (gs.map G.p).Nodup := QI h.asc
structure Bch (C : Addr) (H : Hp) (b S P : Addr) (ow : List Addr) (gs : List G) (past : List (List G)) : Prop where
 at_ : ∃ dx, H b = some (.ins C dx [("standing", .ref S), ("past", .ref P)])
 st : RJ H S gs
 pa : ∃ ps : List Addr, H P = some (.lst (ps.map V.ref)) ∧ Paired (RJ H) ps past ∧ (∀ p ∈ ps, p ∈ ow ∧ p ≠ P)
 sp : S ≠ P
 so : S ∈ ow
 po : P ∈ ow
 std : Std gs
 stds : ∀ x ∈ past, Std x
 len : past.length ≤ 300
 lv : ∀ a ∈ ow, ∃ xs, H a = some (.lst xs)
theorem Ab.keep {H H' : Hp} {as : List Addr} {gs : List G} (h : Ab H as gs) (k : ∀ a xs, H a = some (.tup xs) → H' a = some (.tup xs)) : Ab H' as gs := by
 unfold Ab at *
 induction h with
 | nil => exact .nil
 | cons e _ ih => exact .cons (k _ _ e) ih
theorem RJ.keep {H H' : Hp} {l : Addr} {gs : List G} (h : RJ H l gs) (kl : ∀ u, H l = some u → H' l = some u) (k : ∀ a xs, H a = some (.tup xs) → H' a = some (.tup xs)) : RJ H' l gs := by
 obtain ⟨as, e, g⟩ := h
 exact ⟨as, kl _ e, g.keep k⟩
theorem Paired.keepM {α β : Type} {F F' : α → β → Prop} : ∀ {xs : List α} {ys : List β}, Paired F xs ys → (∀ x y, x ∈ xs → F x y → F' x y) → Paired F' xs ys
 | _, _, .nil, _ => .nil
 | _, _, .cons e r, k => .cons (k _ _ List.mem_cons_self e) (Paired.keepM r fun x y h => k x y (List.mem_cons_of_mem _ h))
theorem Bch.keep {C : Addr} {H H' : Hp} {b S P : Addr} {ow : List Addr} {gs : List G} {past : List (List G)} (h : Bch C H b S P ow gs past) (k : ∀ a u, (a = b ∨ a ∈ ow ∨ ∃ xs, u = .tup xs) → H a = some u → H' a = some u) : Bch C H' b S P ow gs past := by
 have kt : ∀ a xs, H a = some (.tup xs) → H' a = some (.tup xs) := fun a xs e => k a _ (.inr (.inr ⟨xs, rfl⟩)) e
 obtain ⟨dx, e⟩ := h.at_
 obtain ⟨ps, e2, pr, hm⟩ := h.pa
 exact ⟨⟨dx, k _ _ (.inl rfl) e⟩, h.st.keep (fun u e => k _ u (.inr (.inl h.so)) e) kt, ⟨ps, k _ _ (.inr (.inl h.po)) e2, Paired.keepM pr fun x y hx q => q.keep (fun u e => k _ u (.inr (.inl (hm x hx).1)) e) kt, hm⟩, h.sp, h.so, h.po, h.std, h.stds, h.len, fun a ha => (h.lv a ha).imp fun xs e => k a _ (.inr (.inl ha)) e⟩
theorem Bch.same {C : Addr} {H H' : Hp} {b S P : Addr} {ow : List Addr} {gs : List G} {past : List (List G)} (h : Bch C H b S P ow gs past) (s : AH H H') : Bch C H' b S P ow gs past := h.keep fun a u _ e => s a u e
def JW (gs : List G) (p : Int) (o : List G) : List G := (gs.filter fun g => decide (g.p < p)) ++ (o ++ (gs.filter fun g => decide (p < g.p)))
theorem RT {gs : List G} {p : Int} {o : List G} (h : Asc gs) (ho : Asc o) (hp : ∀ g ∈ o, g.p = p) : Asc (JW gs p o) := by
 unfold JW Asc at *
 refine List.pairwise_append.mpr ⟨h.filter _, List.pairwise_append.mpr ⟨ho, h.filter _, fun a ha b hb => ?_⟩, fun a ha b hb => ?_⟩
 ·have := of_decide_eq_true (List.mem_filter.mp hb).2
  rw [hp a ha]; exact this
 ·have h1 := of_decide_eq_true (List.mem_filter.mp ha).2
  rcases List.mem_append.mp hb with z | z
  ·rw [hp b z]; exact h1
  ·have := of_decide_eq_true (List.mem_filter.mp z).2
   omega
theorem RL {gs : List G} {p : Int} {o : List G} {g : G} : g ∈ JW gs p o ↔ (g ∈ gs ∧ g.p ≠ p) ∨ g ∈ o := by
 unfold JW
 simp only [List.mem_append, List.mem_filter, decide_eq_true_eq]
 constructor
 ·rintro (⟨h, q⟩ | h | ⟨h, q⟩)
  ·exact .inl ⟨h, by omega⟩
  ·exact .inr h
  ·exact .inl ⟨h, by omega⟩
 ·rintro (⟨h, q⟩ | h)
  ·rcases Int.lt_or_gt_of_ne q with z | z
   ·exact .inl ⟨h, z⟩
   ·exact .inr (.inr ⟨h, z⟩)
  ·exact .inr (.inl h)
theorem GS {gs : List G} {p : Int} {o : List G} : (JW gs p o).Perm ((gs.filter fun g => !decide (g.p = p)) ++ o) := by
 unfold JW
 have h : ((gs.filter fun g => decide (g.p < p)) ++ (gs.filter fun g => decide (p < g.p))).Perm (gs.filter fun g => !decide (g.p = p)) := by
  induction gs with
  | nil => exact List.Perm.refl _
  | cons a gs ih =>
   simp only [List.filter_cons]
   rcases Int.lt_trichotomy a.p p with z | z | z
   ·simp only [decide_eq_true z, show decide (p < a.p) = false from decide_eq_false (by omega), show decide (a.p = p) = false from decide_eq_false (by omega), if_true, Bool.not_false, Bool.false_eq_true, if_false, List.cons_append]
    exact ih.cons _
   ·simp only [show decide (a.p < p) = false from decide_eq_false (by omega), show decide (p < a.p) = false from decide_eq_false (by omega), decide_eq_true z, Bool.not_true, Bool.false_eq_true, if_false]
    exact ih
   ·simp only [show decide (a.p < p) = false from decide_eq_false (by omega), decide_eq_true z, show decide (a.p = p) = false from decide_eq_false (by omega), if_true, Bool.not_false, Bool.false_eq_true, if_false]
    exact List.perm_middle.trans (ih.cons _)
 exact (List.perm_append_comm_assoc _ _ _).trans ((h.append_left o).trans List.perm_append_comm)
theorem Oe {gs : List G} {p : Int} {o : List G} : (JW gs p o).length = (gs.filter fun g => !decide (g.p = p)).length + o.length := by
 rw [GS.length_eq, List.length_append]
abbrev AU (gs : List G) : List Int := gs.map G.p
def B6 (gs : List G) (p : Int) : Option G := gs.find? fun g => decide (g.p = p)
theorem F4 {gs : List G} {p : Int} {g : G} (h : B6 gs p = some g) : g ∈ gs ∧ g.p = p := by
 have h1 := List.mem_of_find?_eq_some h
 have h2 := List.find?_some h
 exact ⟨h1, of_decide_eq_true h2⟩
theorem Jw {gs : List G} {p : Int} : B6 gs p = none ↔ p ∉ AU gs := by
 unfold B6 AU
 rw [List.find?_eq_none]
 constructor
 ·intro h z
  obtain ⟨g, hg, e⟩ := List.mem_map.mp z
  exact h g hg (decide_eq_true e)
 ·intro h g hg z
  exact h (List.mem_map.mpr ⟨g, hg, of_decide_eq_true z⟩)
theorem Je {gs : List G} (ha : Asc gs) {g : G} (hg : g ∈ gs) : B6 gs g.p = some g := by
 cases h : B6 gs g.p with
 | none => exact absurd (List.mem_map.mpr ⟨g, hg, rfl⟩) (Jw.mp h)
 | some x =>
  obtain ⟨h1, h2⟩ := F4 h
  rw [LX ha h1 hg h2]
abbrev InB (x : Int) : Prop := -1000 ≤ x ∧ x ≤ 1000
def M2 (p f h : Int) : Option Err := if h < f then some .upside else if InB p ∧ InB f ∧ InB h then none else some .bounds
theorem K9 {p f h : Int} : M2 p f h = none ↔ OkG ⟨p, f, h⟩ := by
 unfold M2
 constructor
 ·intro z
  split at z
  ·cases z
  ·split at z
   ·rename_i h1 h2
    obtain ⟨⟨a, b⟩, ⟨c, d⟩, e, f1⟩ := h2
    exact ⟨a, b, c, by show f ≤ h; omega, f1⟩
   ·cases z
 ·rintro ⟨a, b, c, d, e⟩
  rw [if_neg (by simp only at *; omega), if_pos (by simp only at *; unfold InB; omega)]
def NH (gs : List G) (past : List (List G)) (p f h : Int) : Option Err :=
 if p ∈ AU gs then some .taken else (M2 p f h).or (if 40 ≤ gs.length then some .full else if 300 ≤ past.length then some .deeds else none)
theorem Std.put {gs : List G} {p f h : Int} (s : Std gs) (ok : OkG ⟨p, f, h⟩) (hl : (gs.filter fun g => !decide (g.p = p)).length < 40) : Std (JW gs p [⟨p, f, h⟩]) where
 asc := RT s.asc (List.pairwise_singleton ..) fun g hg => by rw [List.mem_singleton.mp hg]
 ok := fun g hg => by
  rcases RL.mp hg with z | z
  ·exact s.ok g z.1
  ·rw [List.mem_singleton.mp z]; exact ok
 len := by rw [Oe]; simp only [List.length_singleton]; omega
theorem N1 {gs : List G} {p : Int} (hp : p ∉ AU gs) : (gs.filter fun x => !decide (x.p = p)) = gs :=
 List.filter_eq_self.mpr fun g hg => by
  rw [decide_eq_false (fun z => hp (List.mem_map.mpr ⟨g, hg, z⟩))]; rfl
theorem Bch.off {C : Addr} {H : Hp} {b S P : Addr} {ow : List Addr} {gs : List G} {past : List (List G)} (h : Bch C H b S P ow gs past) {a : Addr} (n : H a = none) : a ∉ ow := fun z => by
 obtain ⟨_, e⟩ := h.lv a z
 rw [n] at e; cases e
theorem Bch.nep {C : Addr} {H : Hp} {b S P : Addr} {ow : List Addr} {gs : List G} {past : List (List G)} (h : Bch C H b S P ow gs past) {a : Addr} {u : HO} (e : H a = some u) (hu : ∀ xs, u ≠ .lst xs) : a ≠ P := fun z => by
 obtain ⟨_, e', _⟩ := h.pa
 rw [z, e'] at e; exact hu _ (Option.some.inj e).symm
theorem Bch.neb {C : Addr} {H : Hp} {b S P : Addr} {ow : List Addr} {gs : List G} {past : List (List G)} (h : Bch C H b S P ow gs past) {a : Addr} {u : HO} (e : H a = some u) (hu : ∀ C dx fs, u ≠ .ins C dx fs) : a ≠ b := fun z => by
 obtain ⟨_, e'⟩ := h.at_
 rw [z, e'] at e; exact hu _ _ _ (Option.some.inj e).symm
theorem Bch.tup {C : Addr} {H H' : Hp} {b S P : Addr} {ow : List Addr} {gs : List G} {past : List (List G)} (h : Bch C H b S P ow gs past) (k : Kp b P H H') {a : Addr} {xs : List V} (e : H a = some (.tup xs)) : H' a = some (.tup xs) :=
 k a _ (h.neb e fun _ _ _ z => by cases z) (h.nep e fun _ z => by cases z) e
theorem Bch.lst {C : Addr} {H H' : Hp} {b S P : Addr} {ow : List Addr} {gs : List G} {past : List (List G)} (h : Bch C H b S P ow gs past) (k : Kp b P H H') {a : Addr} {xs : List V} (e : H a = some (.lst xs)) (ha : a ∉ ow) : H' a = some (.lst xs) :=
 k a _ (h.neb e fun _ _ _ z => by cases z) (fun z => ha (z ▸ h.po)) e
theorem Pm {p : Int} : ∀ l : List Int, inV (.int p) (l.map V.int) = decide (p ∈ l)
 | [] => rfl
 | a :: l => by
  show (eqV (.int a) (.int p) || inV (.int p) (l.map V.int)) = _
  rw [Pm l]
  have e : eqV (.int a) (.int p) = decide (p = a) := by
   show decide (a = p) = decide (p = a)
   exact decide_eq_decide.mpr eq_comm
  rw [e, ← Bool.decide_or]
  exact decide_eq_decide.mpr List.mem_cons.symm
theorem Q6 (l : List Int) : (l.map V.int).all IF = true := by
 rw [List.all_eq_true]
 intro x hx
 obtain ⟨i, _, rfl⟩ := List.mem_map.mp hx
 rfl
theorem OG {gs : List G} : (gs.filter fun _ => true) = gs := List.filter_eq_self.mpr fun _ _ => rfl
end TG
set_option Elab.async false
set_option linter.all false
set_option maxRecDepth 100000
set_option maxHeartbeats 4000000
namespace L2
open PySem PySem.Spec PyProof.Rows
section
variable {prog : Program} {w : World} {A : Around} {E : Value → Shared → Prop} {s : Shared}
end
section
variable {X : Cx} {pos : Pos}
def Ni (K : PySem.W.Frag) (n : Nat) (t : TGs) : TG := fun v σ H Q => ∃ a xs, v = .ref a ∧ SqL K H a xs ∧ xs.length = n ∧ t xs σ H Q
def En : List V → Hp → VK → Prop := fun vs H Q => ∃ b more, vs = [.ref b] ∧ H b = some (.dK more) ∧ ∀ p H', H p = none → AH H H' → H' p = some (.dK more) → Q (.ref p) H'
end
theorem HZ {X : Cx} : Dv (CXE X.prog X.w) X E0 := fun _ _ _ _ _ _ _ ⟨_, _, _, _, _, _, _, _, _, h⟩ => h.elim
end L2
namespace TG
open PySem L2
structure Kept (ow : List Addr) (H H' : Hp) (ow' : List Addr) : Prop where
 tup : ∀ c xs, H c = some (.tup xs) → H' c = some (.tup xs)
 lst : ∀ c xs, c ∉ ow → H c = some (.lst xs) → H' c = some (.lst xs)
 frz : ∀ c o u, H c = some (.frz o u) → H' c = some (.frz o u)
 off : ∀ c ∈ ow', c ∈ ow ∨ H c = none
 live : ∀ c u, H c = some u → ∃ u', H' c = some u'
 tbl : ∀ c ps, H c = some (.tbl ps) → H' c = some (.tbl ps)
theorem Kept.of {ow : List Addr} {H H' : Hp} (s : AH H H') : Kept ow H H' ow := ⟨fun _ _ e => s _ _ e, fun _ _ _ e => s _ _ e, fun _ _ _ e => s _ _ e, fun _ h => .inl h, fun _ u e => ⟨u, s _ _ e⟩, fun _ _ e => s _ _ e⟩
theorem Kept.refl {ow : List Addr} {H : Hp} : Kept ow H H ow := Kept.of (AH.refl _)
theorem Kept.trans {ow ow1 ow2 : List Addr} {H H1 H2 : Hp} (a : Kept ow H H1 ow1) (b : Kept ow1 H1 H2 ow2) : Kept ow H H2 ow2 where
 tup := fun c xs e => b.tup c xs (a.tup c xs e)
 lst := fun c xs n e => b.lst c xs (fun z => by
  rcases a.off c z with z | z
  ·exact n z
  ·rw [z] at e; cases e) (a.lst c xs n e)
 frz := fun c o u e => b.frz c o u (a.frz c o u e)
 off := fun c h => by
  rcases b.off c h with z | z
  ·exact a.off c z
  ·refine .inr ?_
   cases q : H c with
   | none => rfl
   | some u => obtain ⟨u', e⟩ := a.live c u q; rw [z] at e; cases e
 live := fun c u e => let ⟨u', e'⟩ := a.live c u e; b.live c u' e'
 tbl := fun c ps e => b.tbl c ps (a.tbl c ps e)
theorem Kept.kp {C b S P S' P' : Addr} {ow ow' : List Addr} {gs gs' : List G} {past past' : List (List G)} {H H' : Hp} (hb : Bch C H b S P ow gs past) (k : Kp b P H H') (hb' : Bch C H' b S' P' ow' gs' past') (o : ∀ a ∈ ow', a ∈ ow ∨ H a = none) (hl : ∃ u, H' P = some u) : Kept ow H H' ow' where
 tup := fun c xs e => hb.tup k e
 lst := fun c xs n e => hb.lst k e n
 frz := fun c o u e => k c _ (hb.neb e fun _ _ _ z => by cases z) (hb.nep e fun _ z => by cases z) e
 off := o
 live := fun c u e => by
  by_cases h1 : c = b
  ·obtain ⟨dx, z⟩ := hb'.at_; rw [h1]; exact ⟨_, z⟩
  ·by_cases h2 : c = P
   ·rw [h2]; exact hl
   ·exact ⟨u, k c u h1 h2 e⟩
 tbl := fun c ps e => k c _ (hb.neb e fun _ _ _ z => by cases z) (hb.nep e fun _ z => by cases z) e
theorem Kept.deed {C b S P S' : Addr} {ow ow' : List Addr} {gs gs' : List G} {past past' : List (List G)} {H H' : Hp} (hb : Bch C H b S P ow gs past) (k : Kp b P H H') (hb' : Bch C H' b S' P ow' gs' past') (o : ∀ a ∈ ow', a ∈ ow ∨ H a = none) : Kept ow H H' ow' :=
 Kept.kp hb k hb' o (by obtain ⟨ps, e, _⟩ := hb'.pa; exact ⟨_, e⟩)
theorem Kept.gsAt {ow ow' : List Addr} {H H' : Hp} {as : List Addr} {gs : List G} (k : Kept ow H H' ow') (h : Ab H as gs) : Ab H' as gs := h.keep k.tup
theorem RZ {G0 gs : List G} {k : Nat} (hp : G0.Perm (gs.take k)) (hk : k < gs.length) (nd : (gs.map G.p).Nodup) (h40 : gs.length ≤ 40) (ok : ∀ g ∈ gs, OkG g) {past : List (List G)} (hl : past.length < 300) :
  NH G0 past gs[k].p gs[k].f gs[k].h = none ∧ (JW G0 gs[k].p [⟨gs[k].p, gs[k].f, gs[k].h⟩]).Perm (gs.take (k + 1)) := by
 have hn : gs[k].p ∉ AU G0 := fun z => by
  obtain ⟨g, hg, e⟩ := List.mem_map.mp z
  have hg2 := hp.mem_iff.mp hg
  obtain ⟨j, hj, ej⟩ := List.getElem_of_mem hg2
  rw [List.length_take] at hj
  rw [List.getElem_take] at ej
  have hjk : j < k := by omega
  have h1 : (gs.map G.p)[j]'(by rw [List.length_map]; omega) = (gs.map G.p)[k]'(by rw [List.length_map]; omega) := by
   rw [List.getElem_map, List.getElem_map, ej, e]
  exact List.pairwise_iff_getElem.mp nd j k (by rw [List.length_map]; omega) (by rw [List.length_map]; omega) hjk h1
 have hl2 := hp.length_eq
 rw [List.length_take] at hl2
 constructor
 ·unfold NH
  rw [if_neg hn, (K9 (p := gs[k].p) (f := gs[k].f) (h := gs[k].h)).mpr (ok gs[k] (List.getElem_mem hk)), if_neg (by omega), if_neg (by omega)]
  rfl
 ·refine GS.trans ?_
  rw [N1 hn, List.take_succ_eq_append_getElem hk]
  exact hp.append_right _
end TG
set_option Elab.async false
set_option linter.all false
set_option maxRecDepth 100000
set_option maxHeartbeats 4000000
namespace L2
open PySem PySem.Spec PyProof.Rows
section
variable {X : Cx}
def Hx : List V → Hp → VK → Prop := fun xs H Q => ∃ i j k, xs = [.int i, .int j, .int k] ∧ ∀ m, (∀ b, m ≤ b ↔ i ≤ b ∧ j ≤ b ∧ k ≤ b) → Q (.int m) H
end
end L2
namespace TG
open PySem L2
end TG
set_option Elab.async false
set_option linter.all false
set_option maxRecDepth 100000
set_option maxHeartbeats 4000000
namespace TG
open PySem PySem.W PySem.Calls L2
def IZ (tb : String → Option Builtin) (p : Program) (w : World) (n₀ : Nat) (ann : Option Value) : Nat → SharedT → Thread → Option SharedT
 | 0, _, _ => none
 | n + 1, s, t => match through t with
  | true => some s
  | false => match stepOk n₀ ann t with
   | false => none
   | true => match stepT (denote tb) p w s t with
    | some (s', t') => IZ tb p w n₀ ann n s' t'
    | none => none
theorem LQ {tb : String → Option Builtin} {p : Program} {w : World} {n₀ : Nat} {ann : Option Value} : ∀ {n : Nat} {s s' : SharedT} {t : Thread}, IZ tb p w n₀ ann n s t = some s' → topRun tb p w n₀ ann n s.abs t = some s'.abs
 | 0, _, _, _, h => by cases h
 | n + 1, s, s', t, h => by
  unfold IZ at h
  unfold topRun
  cases he : through t with
  | true => rw [he] at h; cases h; rfl
  | false =>
   rw [he] at h
   cases hk : stepOk n₀ ann t with
   | false => rw [hk] at h; cases h
   | true =>
    rw [hk] at h
    cases hs : stepT (denote tb) p w s t with
    | none => rw [hs] at h; cases h
    | some r => obtain ⟨s₂, t₂⟩ := r; rw [hs] at h; rw [stepT_spec hs]; exact LQ h
def Kof (as : List Addr) (h : Heap) : Frag := as.filterMap fun a => (h.get? a).map fun o => (a, o)
theorem VU (as : List Addr) (h : Heap) : (Kof as h).In h := by
 intro a o e
 induction as with
 | nil => cases e
 | cons b r ih =>
  simp only [Kof, List.filterMap_cons] at e
  cases hb : h.get? b with
  | none => rw [hb] at e; exact ih e
  | some ob =>
   rw [hb] at e
   simp only [Option.map_some, List.lookup] at e
   split at e
   ·rename_i q; cases e; rw [beq_iff_eq.mp q]; exact hb
   ·exact ih e
def O8 (t : BT) (n a : Nat) : Option Obj := match Nat.blt a n with
 | true => alive ((t.get a).getD default)
 | false => none
def Qf (as : List Addr) (s : SharedT) : Frag := as.filterMap fun a => (O8 s.tree s.n a).map fun o => (a, o)
theorem Pr (t : BT) (n : Nat) (life : Life) (a : Nat) : (absHeap t n life).get? a = O8 t n a := by
 unfold O8
 cases h : Nat.blt a n with
 | true =>
  have h' : a < n := by simpa [Nat.blt_eq] using h
  show _ = alive ((t.get a).getD default)
  unfold Heap.get?
  rw [absHeap_at, if_pos h']
  generalize (t.get a).getD default = o
  obtain ⟨c, d, dt, sl⟩ := o
  cases dt <;> rfl
 | false =>
  have h' : ¬ a < n := by intro q; rw [Nat.blt_eq.mpr q] at h; cases h
  exact abs_get_none h'
theorem Sy (as : List Addr) (s : SharedT) : Kof as s.abs.heap = Qf as s := by
 unfold Kof Qf
 congr 1
 funext a
 show ((absHeap s.tree s.n s.life).get? a).map _ = _
 rw [Pr]
def RO : Nat → BT → List Obj → BT
 | _, t, [] => t
 | i, t, o :: r => RO (i + 1) (t.ins i o) r
noncomputable def Q7 (P : Params) (os : OsState) : SharedT := ⟨RO 0 .nil (boot_heap P).objs.toList, 11, {}, #[], boot_drawn, boot_toks, os⟩
theorem Qk (P : Params) (os : OsState) : (Q7 P os).abs = ⟨boot_heap P, #[], boot_drawn, boot_toks, os⟩ := by kernel_rfl
theorem Qp (P : Params) : ((boot_heap P).isNs mainGlobals && (#[] : Array GenState).size == 0, (boot_heap P).objs.size, (boot_heap P).nsMap mainGlobals "__annotations__") = (true, 11, some (.ref 6)) := by kernel_rfl
noncomputable def Rn {β : Type} (p q : Program) (loose : List Str) (obs : SharedT → β) (P : Params) (s : SharedT) :=
 ((staticsOk (importedModules p.main.body) (boot_heap P) s.abs.heap && namesBound p s.abs.heap && gensDone s.abs && laidKept (boot_heap P) s.abs.heap), openSeen q loose (importedModules p.main.body) (fun _ => true) true s.abs, obs s)
noncomputable def JS {β : Type} (p q : Program) (loose : List Str) (obs : SharedT → β) (M : Nat) (w : World) (os : OsState) :=
 (IZ treeTable p w 11 (some (.ref 6)) M (Q7 w.params os) (topStub p)).map (Rn p q loose obs w.params)
noncomputable def Rt {β : Type} (p : Program) (obs : SharedT → β) (M : Nat) (w : World) (os : OsState) :=
 (IZ treeTable p w 11 (some (.ref 6)) M (Q7 w.params os) (topStub p)).map obs
theorem O4 {β : Type} {p q : Program} {loose : List Str} {B : SharedT → β} {M : Nat} {w : World} {os : OsState} {v : β} (e1 : JS p q loose (fun _ => ()) M w os = some (true, openGood q loose, ())) (e2 : Rt p B M w os = some v) : JS p q loose B M w os = some (true, openGood q loose, v) := by
 obtain ⟨s, r, l⟩ := Option.map_eq_some_iff.mp e1
 obtain ⟨s', r', l'⟩ := Option.map_eq_some_iff.mp e2
 obtain rfl : s = s' := Option.some.inj (r.symm.trans r')
 obtain ⟨l1, l2, -⟩ : _ ∧ _ ∧ _ := by simpa only [Rn, Prod.mk.injEq] using l
 unfold JS
 rw [r]
 exact congrArg some (Prod.ext l1 (Prod.ext l2 l'))
theorem TK {p q : Program} {loose : List Str} {β : Type} {Yf : Shared → β} {obs : SharedT → β} {v : β} {N M : Nat}
  (e : opening p = plainProg p.main.scope.names) (hN : Nat.ble 600 N = true) (f : ∀ s, fenceModules? p s = some s) (le : Nat.ble M N = true) (hY : ∀ s : SharedT, Yf s.abs = obs s)
  (run : ∀ (w : World) (os : OsState), JS p q loose obs M w os = some (true, openGood q loose, v)) : LeftO p q loose (fun _ => true) Yf (fun _ => v) N := fun w => by
 have open_ := boot_open e hN f w
 obtain ⟨⟨h, gs, d, k, os⟩, e1, e2⟩ := Option.map_eq_some_iff.mp open_
 obtain ⟨rfl, rfl, rfl, rfl⟩ : h = boot_heap w.params ∧ gs = #[] ∧ d = boot_drawn ∧ k = boot_toks := by simpa using e2
 obtain ⟨z1, z2, z3⟩ : _ ∧ _ ∧ _ := by simpa only [Prod.mk.injEq] using Qp w.params
 obtain ⟨sT, r0, l0⟩ := Option.map_eq_some_iff.mp (run w os)
 obtain ⟨l1, l2, l3⟩ : _ ∧ _ ∧ _ := by simpa only [Rn, Prod.mk.injEq] using l0
 have r1 := LQ r0
 rw [Qk] at r1
 have r := topRun_mono (N - M) _ _ _ _ r1
 rw [show M + (N - M) = N by have := Nat.le_of_ble_eq_true le; omega] at r
 have t : topFrom treeTable p w N ⟨boot_heap w.params, #[], boot_drawn, boot_toks, os⟩ = some sT.abs := by
  unfold topFrom
  dsimp only
  rw [z1, z2, z3, r]
  show (match staticsOk (importedModules p.main.body) (boot_heap w.params) sT.abs.heap && namesBound p sT.abs.heap && gensDone sT.abs && laidKept (boot_heap w.params) sT.abs.heap with | true => _ | false => _) = _
  rw [l1]
 unfold openEnds
 rw [e1]
 show (topFrom treeTable p w N _).map _ = _
 rw [t]
 exact congrArg some (Prod.ext l2 ((hY sT).trans l3))
abbrev Seen := Option (Str × Str × Arguments × List Stmt × Scope × Addr × List (Str × Addr) × Addr × Bool × List Int)
def TN : List Value → Option (List Int)
 | [] => some []
 | .int i _ :: r => (TN r).map (i :: ·)
 | _ => none
def dfl (K : Frag) : Value → Option (List Int)
 | .none => some []
 | .ref d => match K.lookup d with
  | some ⟨_, _, .seq vs _, _⟩ => match TN vs.toList with
   | some (i :: r) => some (i :: r)
   | _ => none
  | _ => none
 | _ => none
def RQ (K : Frag) (f : Addr) (qual : Str) : Seen := match K.lookup f with
 | some ⟨_, _, .func ⟨nm, q, ps, .stmts b, sc, g, cl, dV, _, _, _, _, cd, _, bi⟩, _⟩ => match dfl K dV with
  | some ds => some (nm, q, ps, b, sc, g, cl, bi, codeIn K cd qual && keepIn K (.ref f), ds)
  | none => none
 | _ => none
def BE (K : Frag) (x : Str) : Seen := match nsIn K mainGlobals x with
 | some (some (.ref f)) => RQ K f x
 | _ => none
def E2 (K : Frag) (c x qual : Str) : Seen := match nsIn K mainGlobals c with
 | some (some (.ref C)) => match findIn K (.ref C) x with
  | some (some (.ref f)) => match isFn K (.ref f) with
   | true => RQ K f qual
   | false => none
  | _ => none
 | _ => none
def Am (x qual : Str) (st : Stmt) (ds : List Int) : Seen := some (x, qual, CU st, Bk st, AF st, mainGlobals, [], builtinsNs, true, ds)
def Tq (K : Frag) (c : Str) (fs : List Str) : Bool := match nsIn K mainGlobals c with
 | some (some (.ref C)) => plainGet K C Str.empty && hasDictIn K C && plainOver K C && findIn K (.ref C) "__setattr__" == some (some (.builtin "object.__setattr__")) && makesIn K C && keepIn K (.ref C) && fs.all fun f => findIn K (.ref C) f == some none
 | _ => false
def JA (K : Frag) (c : Str) : Bool := match nsIn K mainGlobals c with
 | some (some (.ref C)) => excIn K C bmV "ValueError.__new__"
 | _ => false
def N8 (K : Frag) (x : Str) : Option Int := match nsIn K mainGlobals x with
 | some (some (.int i _)) => some i
 | _ => none
def GJ (K : Frag) (x : Str) : Bool := match nsIn K mainGlobals x with
 | some none => true
 | _ => false
section
variable {K : Frag}
theorem Nu {v : Value} (e : dfl K v = some []) : v = .none := by
 unfold dfl at e
 split at e
 ·rfl
 ·repeat' split at e
  all_goals cases e
 ·cases e
theorem Po {f : Addr} {x qual : Str} {st : Stmt} {ds : List Int} (e : RQ K f qual = Am x qual st ds) : ∃ (oc : Value) (od : Option Addr) (sl : Array (Option Value)) (dV kV dc pm : Value) (an : Option Addr) (cd ct : Value),
  K.lookup f = some ⟨oc, od, .func (fnOf x qual (CU st) (Bk st) (AF st) dV kV dc pm an cd ct), sl⟩ ∧ codeIn K cd qual = true ∧ keepIn K (.ref f) = true ∧ dfl K dV = some ds := by
 unfold RQ Am at e
 split at e
 ·rename_i oc od nm q ps b sc g cl dV kV dc pm an cd ct bi sl hl
  split at e
  ·rename_i ds' hd
   simp only [Option.some.injEq, Prod.mk.injEq, Bool.and_eq_true] at e
   obtain ⟨rfl, rfl, rfl, rfl, rfl, rfl, rfl, rfl, ⟨h1, h2⟩, rfl⟩ := e
   exact ⟨oc, od, sl, dV, kV, dc, pm, an, cd, ct, hl, h1, h2, hd⟩
  ·cases e
 ·cases e
theorem Ph {x : Str} {st : Stmt} (e : BE K x = Am x x st []) : ∃ (f : Addr) (oc : Value) (od : Option Addr) (sl : Array (Option Value)) (kV dc pm : Value) (an : Option Addr) (cd ct : Value),
  nsIn K mainGlobals x = some (some (.ref f)) ∧ K.lookup f = some ⟨oc, od, .func (fnOf x x (CU st) (Bk st) (AF st) .none kV dc pm an cd ct), sl⟩ ∧ codeIn K cd x = true ∧ keepIn K (.ref f) = true := by
 unfold BE at e
 split at e
 ·rename_i f hf
  obtain ⟨oc, od, sl, dV, kV, dc, pm, an, cd, ct, h1, h2, h3, h4⟩ := Po e
  cases Nu h4
  exact ⟨f, oc, od, sl, kV, dc, pm, an, cd, ct, hf, h1, h2, h3⟩
 ·cases e
theorem seeM_ {C : Addr} {c x qual : Str} {st : Stmt} {ds : List Int} (hc : nsIn K mainGlobals c = some (some (.ref C))) (e : E2 K c x qual = Am x qual st ds) : ∃ f : Addr, findIn K (.ref C) x = some (some (.ref f)) ∧ isFn K (.ref f) = true ∧ RQ K f qual = Am x qual st ds := by
 unfold E2 at e
 rw [hc] at e
 dsimp only at e
 split at e
 ·rename_i f hf
  split at e
  ·rename_i h
   exact ⟨f, hf, h, e⟩
  ·cases e
 ·cases e
theorem So {C : Addr} {c x qual : Str} {st : Stmt} (hc : nsIn K mainGlobals c = some (some (.ref C))) (e : E2 K c x qual = Am x qual st []) : ∃ (f : Addr) (oc : Value) (od : Option Addr) (sl : Array (Option Value)) (kV dc pm : Value) (an : Option Addr) (cd ct : Value),
  findIn K (.ref C) x = some (some (.ref f)) ∧ isFn K (.ref f) = true ∧ K.lookup f = some ⟨oc, od, .func (fnOf x qual (CU st) (Bk st) (AF st) .none kV dc pm an cd ct), sl⟩ ∧ codeIn K cd qual = true ∧ keepIn K (.ref f) = true := by
 obtain ⟨f, hf, hi, e⟩ := seeM_ hc e
 obtain ⟨oc, od, sl, dV, kV, dc, pm, an, cd, ct, h1, h2, h3, h4⟩ := Po e
 cases Nu h4
 exact ⟨f, oc, od, sl, kV, dc, pm, an, cd, ct, hf, hi, h1, h2, h3⟩
theorem Sd {c : Str} {fs : List Str} (e : Tq K c fs = true) : ∃ C : Addr, nsIn K mainGlobals c = some (some (.ref C)) ∧ plainGet K C Str.empty = true ∧ hasDictIn K C = true ∧ plainOver K C = true ∧
  findIn K (.ref C) "__setattr__" = some (some (.builtin "object.__setattr__")) ∧ makesIn K C = true ∧ keepIn K (.ref C) = true ∧ ∀ f ∈ fs, findIn K (.ref C) f = some none := by
 unfold Tq at e
 split at e
 ·rename_i C hC
  simp only [Bool.and_eq_true, beq_iff_eq, List.all_eq_true] at e
  obtain ⟨⟨⟨⟨⟨⟨h1, h2⟩, h3⟩, h4⟩, h5⟩, h6⟩, h7⟩ := e
  exact ⟨C, hC, h1, h2, h3, h4, h5, h6, h7⟩
 ·cases e
theorem B5 {c : Str} (e : JA K c = true) : ∃ C : Addr, nsIn K mainGlobals c = some (some (.ref C)) ∧ excIn K C [.type "ValueError", .type "Exception", .type "BaseException", .type "object"] "ValueError.__new__" = true := by
 unfold JA at e
 split at e
 ·rename_i C hC
  exact ⟨C, hC, e⟩
 ·cases e
theorem GX {x : Str} {i : Int} (e : N8 K x = some i) : ∃ t : Tok, nsIn K mainGlobals x = some (some (.int i t)) := by
 unfold N8 at e
 split at e
 ·rename_i j t h
  cases e
  exact ⟨t, h⟩
 ·cases e
theorem BP {x : Str} (e : GJ K x = true) : nsIn K mainGlobals x = some none := by
 unfold GJ at e
 split at e
 ·assumption
 ·cases e
end
end TG
namespace TG
open PySem PySem.W
theorem WA {R : WRecords} {h : Heap} (e : R = []) : RecFacts R h := by
 subst e
 exact ⟨fun x hx => (nomatch hx), fun x hx => (nomatch hx), fun c c' a (hc : false = true) => (nomatch hc), fun c fs (hf : none = some fs) => (nomatch hf)⟩
end TG
set_option Elab.async false
set_option linter.all false
set_option maxRecDepth 100000
set_option maxHeartbeats 4000000
namespace TG
open PySem L2
end TG
namespace L2
open PySem
end L2
namespace TG
open PySem L2
end TG
namespace TG
open PySem L2
section
variable {C D L b S P : Addr} {ow : List Addr} {gs : List G} {past : List (List G)} {H H' : Hp} {kvs : List (Key × V)} {xs : List V}
end
end TG
namespace L2
theorem RP {K : PySem.W.Frag} {H : Hp} {p : PySem.Addr} {xs : List V} (e : H p = some (.lst xs)) : tyV K "list" (.ref p) H := .inl ⟨rfl, _, SqL.of e⟩
end L2
namespace TG
open PySem L2
end TG
set_option Elab.async false
set_option linter.all false
set_option maxRecDepth 100000
set_option maxHeartbeats 4000000
namespace L2
open PySem
end L2
namespace L2
end L2
namespace TG
open PySem L2
end TG
namespace L2
open PySem PySem.Spec PyProof.Rows
theorem Kw (ns : List Int) : ∀ i, i ≤ ns.length → (List.range i).map (fun i => ns.getD i 0) = ns.take i
 | 0, _ => rfl
 | i + 1, h => by
  rw [List.range_succ, List.map_append, Kw ns i (by omega), List.take_succ_eq_append_getElem (show i < ns.length by omega)]
  congr 1
  show [ns.getD i 0] = _
  rw [List.getD_eq_getElem?_getD, List.getElem?_eq_getElem (show i < ns.length by omega)]
  rfl
theorem MP (ns : List Int) : ∀ i, i ≤ ns.length → ((firstMet (fun i => ns.getD i 0) i).length = i ↔ (ns.take i).Nodup)
 | 0, _ => ⟨fun _ => List.nodup_nil, fun _ => rfl⟩
 | i + 1, h => by
  have hi : i < ns.length := by omega
  have ih := MP ns i (by omega)
  have le := firstMet_length_le (fun i => ns.getD i 0) i
  have hv : ns.getD i 0 = ns[i] := by
   rw [List.getD_eq_getElem?_getD, List.getElem?_eq_getElem hi]
   rfl
  have ha : (firstMet (fun i => ns.getD i 0) i).any (· == ns.getD i 0) = true ↔ ns[i] ∈ ns.take i := by
   rw [firstMet_any, Kw ns i (by omega), hv, List.any_eq_true]
   constructor
   ·rintro ⟨x, hx, e⟩
    rw [← (beq_iff_eq.mp e)]; exact hx
   ·intro hx
    exact ⟨_, hx, beq_iff_eq.mpr rfl⟩
  rw [firstMet_succ, step_length, List.take_succ_eq_append_getElem hi, List.nodup_append]
  by_cases hc : ns[i] ∈ ns.take i
  ·rw [if_pos (ha.mpr hc)]
   constructor
   ·intro z; omega
   ·rintro ⟨_, _, z⟩
    exact absurd rfl (z _ hc _ (List.mem_singleton.mpr rfl))
  ·rw [if_neg (fun z => hc (ha.mp z))]
   constructor
   ·intro z
    refine ⟨ih.mp (by omega), (by simp), fun a ha' b hb e => ?_⟩
    rw [List.mem_singleton.mp hb] at e
    exact hc (e ▸ ha')
   ·rintro ⟨z, _⟩
    have := ih.mpr z
    omega
section
variable {X : Cx}
def Gx (K : PySem.W.Frag) : List V → Hp → VK → Prop := fun xs H Q => ∃ l, xs = [.ref l] ∧ ∃ ns : List Int, SqL K H l (ns.map V.int) ∧ ns.length < 4000 ∧
 ∀ (D : Addr) (H' : Hp) (S : Int → Bool) (n : Nat), H D = none → AH H H' → H' D = some (.set S n) → n ≤ ns.length → (n = ns.length ↔ ns.Nodup) → Q (.ref D) H'
theorem Qc (hc : X.calm = true) : CB X (.type "set") (Gx X.K) := by
 intro pins s σ H xs us Q I r h
 obtain ⟨l, rfl, ns, hl, h4, q⟩ := h
 obtain ⟨u, rfl, ru⟩ := vals1 r
 cases ru
 obtain ⟨its, rv, pl, hz⟩ := I.list hl
 have hlen := rv.length
 rw [List.length_map] at hlen
 have hn : its.toArray.size = ns.length := by rw [List.size_toArray, ← hlen]
 refine call_set_list (I.ok.hd hc) pl.isList (intsAre_of rv) (by rw [hn]; unfold scanBound; omega) fun h' tk hS kp => ?_
 rw [hn] at hS
 have hfr : H s.heap.objs.size = none := I.hok.fresh (Nat.le_refl _)
 have hm := MP ns ns.length (Nat.le_refl _)
 rw [List.take_length] at hm
 exact ⟨.ref s.heap.objs.size, _, I.laid (t' := tk) (fun b o e => kp b o (Heap.lt_size e) e) (Nat.le_refl _) (show As X.prog X.w _ h' _ (.set _ _) from hS), rfl, q _ _ _ _ hfr (Ax hfr) AO (firstMet_length_le _ _) hm⟩
def Gz : List V → Hp → VK → Prop := fun xs H Q => ∃ a, xs = [V.ref a] ∧ ∃ (S : Int → Bool) (n : Nat), H a = some (.set S n) ∧ Q (.int n) H
theorem QQ : CB X (.builtin "len") Gz := by
 intro pins s σ H xs us Q I r h
 obtain ⟨a, rfl, S, n, ha, q⟩ := h
 obtain ⟨u, rfl, ru⟩ := vals1 r
 cases ru
 obtain ⟨o, es, ep, t, hg, hex, hd, _, _, hsz, hf, rfl⟩ := (show s.heap.SetOf (intKind X.prog X.w) a S n from I.hok a _ ha)
 exact call_len_set hg hex hd hf (by unfold scanBound at hsz; omega) ⟨.int es.size, H, I.tok _, ⟨_, rfl⟩, q⟩
end
end L2
namespace TG
open PySem L2
def Bw (gs : List G) (ps : List Int) : List G := ps.filterMap (B6 gs)
theorem EL {gs : List G} {ps : List Int} {g : G} (h : g ∈ Bw gs ps) : g ∈ gs := by
 obtain ⟨p, _, e⟩ := List.mem_filterMap.mp h
 exact (F4 e).1
theorem BM {gs : List G} : ∀ {ps : List Int}, (∀ p ∈ ps, p ∈ AU gs) → AU (Bw gs ps) = ps
 | [], _ => rfl
 | p :: ps, h => by
  have ih := BM (gs := gs) (ps := ps) fun q hq => h q (List.mem_cons_of_mem _ hq)
  cases hg : B6 gs p with
  | none => exact absurd (h p List.mem_cons_self) (Jw.mp hg)
  | some g =>
   have e : Bw gs (p :: ps) = g :: Bw gs ps := by unfold Bw; rw [List.filterMap_cons, hg]
   rw [e]
   show g.p :: AU (Bw gs ps) = _
   rw [ih, (F4 hg).2]
theorem Ec {gs : List G} {ps : List Int} (h : ∀ p ∈ ps, p ∈ AU gs) : (Bw gs ps).length = ps.length := by
 have := congrArg List.length (BM h)
 rwa [List.length_map] at this
theorem Rl {gs : List G} (ha : Asc gs) {ps : List Int} {g : G} (hg : g ∈ Bw gs ps) : B6 gs g.p = some g := Je ha (EL hg)
theorem S3 {K : PySem.W.Frag} {a : Addr} {gs : List G} {te : TE} {caps : St} {D : Addr} {H1 : Hp} {Q : Hp → Prop} (hl : SqL K H1 a ((AU gs).map V.int)) (hD : H1 D = none) (hz : gs.length ≤ 1000)
  (he : ∀ g H (R : VK), g ∈ gs → AH H1 H → (∀ p, H p = some (.tup (G.vs g)) → R (.ref p) H) → te (some (.int g.p) :: caps) H R)
  (hd : ∀ H as, AH H1 H → H D = some (.lst (as.map V.ref)) → Ab H as gs → Q H) : HH te Gc caps (Itl K a) D H1 Q := by
 have hlen : ((AU gs).map V.int).length = gs.length := by rw [List.length_map, List.length_map]
 refine Mq (xs := (AU gs).map V.int) (fun i ys H => ∃ as : List Addr, ys = as.map V.ref ∧ AH H1 H ∧ H D = some (.lst ys) ∧ Ab H as (gs.take i)) ⟨[], rfl, Ax hD, AO, .nil⟩ (fun _ _ H _ ⟨_, _, s1, _⟩ => s1.seq hl) ?_ ?_
 ·rintro i x ys H hx hy ⟨as, rfl, s1, e1, g1⟩
  have hi : i < gs.length := by
   have := (List.getElem?_eq_some_iff.mp hx).1
   omega
  have ex : x = V.int gs[i].p := by
   rw [List.getElem?_map, List.getElem?_map, List.getElem?_eq_getElem hi] at hx
   exact (Option.some.inj hx).symm
  subst ex
  have et : gs.take (i + 1) = gs.take i ++ [gs[i]] := List.take_succ_eq_append_getElem hi
  refine he gs[i] H _ (List.getElem_mem hi) s1 fun p ep => OW.of (by rw [hlen, PySem.sizeLine_eq]; omega) (by omega) hy e1 ⟨as ++ [p], by rw [List.map_append]; rfl, s1.updFresh hD, AO, ?_⟩
  rw [et]
  have kt : ∀ a xs, H a = some (.tup xs) → upd H D (.lst (as.map V.ref ++ [V.ref p])) a = some (.tup xs) := fun a xs e => (AG (GG e e1 fun z => by cases z)).trans e
  exact Ab.append (g1.keep kt) (.cons (kt _ _ ep) .nil)
 ·rintro ys H hy ⟨as, rfl, s1, e1, g1⟩
  rw [hlen, List.take_length] at g1
  exact hd H as s1 e1 g1
def EC (ps : List Int) : Prop := ps = [] ∨ 40 < ps.length ∨ ¬ ps.Nodup
end TG
namespace L2
open PySem
theorem Tp : bootBuiltins "set" = some (.type "set") := by decide +kernel
end L2
namespace L2
open PySem PySem.Spec PyProof.Rows
section
variable {X : Cx}
def IN (K : PySem.W.Frag) : R2 := fun x y H Q => ∃ a b, x = .ref a ∧ y = .ref b ∧ ∃ ns : List Int, SqL K H a (ns.map V.int) ∧ ∃ ms : List Int, SqL K H b (ms.map V.int) ∧ Q (.bl (decide (ns = ms))) H
end
end L2
namespace TG
open PySem L2
end TG
namespace TG
end TG
namespace TG
open PySem L2
end TG
namespace TG
open PySem L2
theorem QE {gs : List G} (ha : Asc gs) : Bw gs (AU gs) = gs := by
 unfold Bw AU
 rw [List.filterMap_map]
 have h : ∀ l : List G, (∀ g ∈ l, g ∈ gs) → l.filterMap (B6 gs ∘ G.p) = l := by
  intro l
  induction l with
  | nil => intro _; rfl
  | cons g l ih =>
   intro hl
   have e : (B6 gs ∘ G.p) g = some g := Je ha (hl g List.mem_cons_self)
   rw [List.filterMap_cons, e]
   show g :: List.filterMap (B6 gs ∘ G.p) l = _
   rw [ih fun x hx => hl x (List.mem_cons_of_mem _ hx)]
 exact h gs fun _ h => h
end TG
namespace TG
open PySem L2
theorem K6 {t t' : Thr} {x y : G} (ot : OkT t) (ot' : OkT t') (lt : x.p < y.p) (tx : t.gap x.p x.f = 0) (ty : t.gap y.p y.h = 0) (px : t'.pas x) (py : t'.pas y) : t'.c * t.d ≤ t.c * t'.d := by
 have b0 := ot'.b0
 have d0 := ot'.d0
 have m := Oq ot (Int.mul_pos b0 d0) lt tx ty (DU.mp px) (DU.mp py)
 refine Int.le_of_mul_le_mul_left (a := t'.b) ?_ b0
 calc t'.b * (t'.c * t.d) = t'.c * t'.b * t.d := by grind
  _ ≤ t.c * (t'.b * t'.d) := m
  _ = t'.b * (t.c * t'.d) := by grind
theorem Dn {t : Thr} {gs : List G} (ot : OkT t) (all : ∀ g ∈ gs, t.pas g) {u : List Int} (hf : BX gs u) : u = [] :=
 hf.line (Int.mul_pos ot.b0 ot.d0) fun g hg => DU.mp (all g hg)
end TG
namespace TG
open PySem PySem.W L2
section
variable {K : Frag} {mg : Str → Option Value} {h : Heap}
theorem Ae {x : Str} {st : Stmt} {ps : List Str} (X : K.In h) (G : h.Ns mainGlobals mg) (e : BE K x = Am x x st [])
  (b : ∀ (kV doc pm : Value) (an : Option Addr) (cdv ct : Value) (us : List Value), us.length = ps.length → bindArgs (fnOf x x (CU st) (Bk st) (AF st) .none kV doc pm an cdv ct) ⟨us, []⟩ = pure (ps.zip us)) : ∃ f fd, D K mg x st ps f fd := by
 obtain ⟨f, oc, od, sl, kV, dc, pm, an, cd, ct, a, l, c, k⟩ := Ph e
 exact ⟨f, _, Jj l c k, mg_of X G a, (Jj l c k).binds b⟩
theorem Bv {C : Addr} {c x qual : Str} {st : Stmt} {ps : List Str} (hc : nsIn K mainGlobals c = some (some (.ref C))) (e : E2 K c x qual = Am x qual st [])
  (b : ∀ (kV doc pm : Value) (an : Option Addr) (cdv ct : Value) (us : List Value), us.length = ps.length → bindArgs (fnOf x qual (CU st) (Bk st) (AF st) .none kV doc pm an cdv ct) ⟨us, []⟩ = pure (ps.zip us)) : ∃ f fd, DM K C x qual st ps f fd := by
 obtain ⟨f, oc, od, sl, kV, dc, pm, an, cd, ct, a, i, l, c, k⟩ := So hc e
 exact ⟨f, _, Jj l c k, ⟨a, i, k⟩, (Jj l c k).binds b⟩
end
end TG
namespace TG
open PySem L2
def N4 (a b c d : Int) : Prop := b < 1 ∨ d < 1 ∨ ∃ x ∈ [a, b, c, d], x < -999999999 ∨ 999999999 < x
def JL (a b c d : Int) (g : G) : Bool := decide (Pas a b c d g.p g.f g.h)
theorem NV {K : PySem.W.Frag} {a : Addr} {as : List Addr} {gs : List G} {te : TE} {tc : TT} {caps : St} {D : Addr} {H1 : Hp} {Q : Hp → Prop} (P : G → Bool) (f : G → V) (hl : SqL K H1 a (as.map V.ref)) (ga : Ab H1 as gs) (hD : H1 D = none) (hz : gs.length ≤ 1000)
  (ht : ∀ v g H (R : Bool → Hp → Prop), g ∈ gs → AH H1 H → H v = some (.tup (G.vs g)) → (∀ H', AH H H' → R (P g) H') → tc (some (.ref v) :: caps) H R)
  (he : ∀ v g H (R : VK), g ∈ gs → AH H1 H → H v = some (.tup (G.vs g)) → R (f g) H → te (some (.ref v) :: caps) H R)
  (hd : ∀ H, AH H1 H → H D = some (.lst ((gs.filter P).map f)) → Q H) : HH te tc caps (Itl K a) D H1 Q := by
 have la := ga.len
 refine C5 (xs := as.map V.ref) (fun i ys H => ys = ((gs.take i).filter P).map f ∧ AH H1 H ∧ H D = some (.lst ys)) ⟨rfl, Ax hD, AO⟩ (fun _ _ H _ ⟨_, s1, _⟩ => s1.seq hl) ?_ ?_
 ·rintro i x ys H0 hx ⟨rfl, s0, e0⟩
  have hi : i < gs.length := by
   have := (List.getElem?_eq_some_iff.mp hx).1
   rw [List.length_map] at this
   omega
  obtain ⟨v, hv, t1⟩ := ga.get (List.getElem?_eq_getElem hi)
  have ex : x = V.ref v := by
   rw [List.getElem?_map, hv] at hx
   exact (Option.some.inj hx).symm
  subst ex
  have et : gs.take (i + 1) = gs.take i ++ [gs[i]] := List.take_succ_eq_append_getElem hi
  have hlen : (as.map V.ref).length = gs.length := by rw [List.length_map, la]
  have hle : (((gs.take i).filter P).map f).length ≤ i := by
   rw [List.length_map]
   exact Nat.le_trans (List.length_filter_le _ _) (List.length_take_le _ _)
  refine ht v gs[i] H0 _ (List.getElem_mem hi) s0 (s0.get t1) fun H s => ?_
  have s1 := s0.trans s
  have e1 := s.get e0
  by_cases hp : P gs[i] = true
  ·rw [if_pos hp]
   refine he v gs[i] H _ (List.getElem_mem hi) s1 (s1.get t1) ?_
   refine ⟨e1, by rw [PySem.sizeLine_eq]; omega, _, by omega, rfl, by omega, ?_, s1.updFresh hD, AO⟩
   rw [et, List.filter_append, List.filter_cons, if_pos hp, List.filter_nil, List.map_append]
   rfl
  ·rw [if_neg hp]
   refine ⟨_, by omega, rfl, by omega, ?_, s1, e1⟩
   rw [et, List.filter_append, List.filter_cons, if_neg hp, List.filter_nil, List.append_nil]
 ·rintro ys H ⟨rfl, s1, e1⟩
  rw [List.length_map, la, List.take_length] at e1
  exact hd H s1 e1
theorem Pq {a b c d : Int} (h1 : 1 ≤ b) (h2 : 1 ≤ d) (h3 : a.natAbs ≤ 999999999) (h4 : b.natAbs ≤ 999999999) (h5 : c.natAbs ≤ 999999999) (h6 : d.natAbs ≤ 999999999) : ¬ N4 a b c d := by
 rintro (z | z | ⟨x, hx, z⟩)
 ·omega
 ·omega
 ·simp only [List.mem_cons, List.not_mem_nil, or_false] at hx
  rcases hx with rfl | rfl | rfl | rfl <;> omega
end TG
set_option Elab.async false
set_option linter.all false
set_option maxRecDepth 100000
namespace L2
open PySem PySem.Spec PyProof.Rows
section
variable {prog : Program} {w : World} {A : Around} {R : Result → Shared → Prop} {I : Addr} {fp wr : List Addr} {G : Array GenState → Array GenState → Prop} {n : Nat} {P : Nat → Value → Prop} {St : Nat → Shared → Prop}
end
section
variable {X : Cx}
end
end L2
namespace TG
open PySem L2
end TG
set_option Elab.async false
set_option linter.all false
set_option maxRecDepth 100000
set_option maxHeartbeats 4000000
namespace L2
open PySem PySem.Spec PyProof.Rows
section
variable {M : Model} {A : Around} {E : Value → Shared → Prop} {s : Shared} {B : Heap} {l : List Env} {ea : Addr} {kl a0 fl : Value}
end
section
variable {P : Program} {w : World} {K : PySem.W.Frag} {mg : Str → Option Value} {base : Heap} {N : List Str} {qual : Str} {scope : Scope} {f : Addr} {cd : Value} {A : Around} {outer : List Env} {s0 : Shared} {H0 : Hp} {E : XK}
 {pins pins' : List (Addr × Obj)} {σ σ' : St} {H H1 : Hp} {s s1 s' : Shared} {sc : Scope} {x : Str} {caps : List Str} {ix : List Nat}
end
section
variable {X : Cx} {pins : List (Addr × Obj)} {σ : St} {H : Hp} {s : Shared} {sc : Scope} {x : Str} {caps : List Str} {ix : List Nat}
end
section
variable {P : Program} {w : World} {K : PySem.W.Frag} {mg : Str → Option Value} {base : Heap} {N : List Str} {qual : Str} {scope : Scope} {f : Addr} {cd : Value} {A : Around} {outer : List Env} {s0 : Shared} {H0 : Hp} {E : XK}
 {sc : Scope} {x : Str} {caps : List Str} {ix : List Nat}
end
section
variable {X : Cx}
def Px : V → List V → Hp → VK → Prop := fun x vs H Q => ∃ l xs i y, x = .ref l ∧ vs = [.int i, y] ∧ H l = some (.lst xs) ∧ 0 ≤ i ∧ i ≤ (xs.length : Int) ∧ xs.length < 4000 ∧ Q .non (upd H l (.lst (xs.take i.toNat ++ y :: xs.drop i.toNat)))
theorem QC : MtM X "list.insert" Px := by
 intro pins s σ H x vs v us Q I rx rv h
 obtain ⟨l, xs, i, y, rfl, rfl, hH, h0, h1, hz, q⟩ := h
 cases rx
 cases rv with | cons r1 rv => cases rv with | cons r2 rv => cases rv with | nil =>
 obtain ⟨t, rfl⟩ := r1
 rename_i u
 obtain ⟨z, its, n, r, hl, e⟩ := I.lstM hH
 refine call_meets F.slot_list_insert ⟨_, e, rfl⟩ F.entry_list_insert (F.args_list_insert_3 _ _ _) (PySem.AutoListH.list_insert_list_int_val_1 l its.toArray n i t u (by simp [Builtin.List.listFitsIndex]; omega) (by rw [List.size_toArray]; omega)) ⟨e, ?_⟩
 refine ⟨.non, _, I.lset (its' := its.take i.toNat ++ u :: its.drop i.toNat) hH e ?_ ?_ ?_, rfl, q⟩
 ·have hi : i.toNat ≤ its.length := by omega
  have hk : (if i < 0 then (i + (its.toArray.size : Int)).toNat else min i.toNat its.toArray.size) = i.toNat := by
   rw [if_neg (by omega), List.size_toArray]
   omega
  show (its.toArray.extract 0 _).push u ++ its.toArray.extract _ _ = _
  rw [hk]
  apply Array.toList_inj.mp
  simp
  exact List.take_of_length_le (by rw [List.length_drop]; exact Nat.le_refl _)
 ·exact (r.take _).append (.cons r2 (r.drop _))
 ·rw [List.length_append, List.length_cons, List.length_take, List.length_drop, PySem.sizeLine_eq]
  omega
end
end L2
set_option Elab.async false
set_option linter.all false
set_option maxRecDepth 100000
set_option maxHeartbeats 4000000
namespace TG
open PySem L2
theorem R6 {gs : List G} (ok : ∀ g ∈ gs, OkG g) (ha : Asc gs) (nb : BK gs) {x0 y0 : G} (hx0 : x0 ∈ gs) (hy0 : y0 ∈ gs) (l0 : x0.p < y0.p) : ∃ x ∈ gs, ∃ y ∈ gs, x.p < y.p ∧ ∀ g ∈ gs, ED (x.f * y.p - y.h * x.p) (y.h - x.f) (y.p - x.p) g := by
 let ps : List (Int × Int) := gs.flatMap fun x => (gs.filter fun y => decide (x.p < y.p)).map fun y => (y.h - x.f, y.p - x.p)
 have mem : ∀ {x y : G}, x ∈ gs → y ∈ gs → x.p < y.p → (y.h - x.f, y.p - x.p) ∈ ps := fun {x y} hx hy l =>
  List.mem_flatMap.mpr ⟨x, hx, List.mem_map.mpr ⟨y, List.mem_filter.mpr ⟨hy, decide_eq_true l⟩, rfl⟩⟩
 have inv : ∀ z ∈ ps, ∃ x ∈ gs, ∃ y ∈ gs, x.p < y.p ∧ z = (y.h - x.f, y.p - x.p) := fun z hz => by
  obtain ⟨x, hx, h2⟩ := List.mem_flatMap.mp hz
  obtain ⟨y, hy, rfl⟩ := List.mem_map.mp h2
  obtain ⟨h3, h4⟩ := List.mem_filter.mp hy
  exact ⟨x, hx, y, h3, of_decide_eq_true h4, rfl⟩
 obtain ⟨z, hz, hm⟩ := LI ps (fun e => by have := mem hx0 hy0 l0; rw [e] at this; simp at this) (fun z hz => by
  obtain ⟨x, _, y, _, l, rfl⟩ := inv z hz
  show 0 < y.p - x.p
  omega)
 obtain ⟨x, hx, y, hy, l, rfl⟩ := inv z hz
 refine ⟨x, hx, y, hy, l, Kr ok hx hy l (fun x' hx' y' hy' l' => hm _ (mem hx' hy' l')) (fun g hg g' hg' e => LX ha hg hg' e) (fun m hm l1 hb => ?_) (fun m hm l1 hb => ?_)⟩
 ·exact GU ha nb hm hx hy l1 l (.inl hb)
 ·exact GU ha nb hx hy hm l l1 (.inr hb)
structure TR (gs : List G) (ts : List Thr) : Prop where
 ne : ts ≠ []
 ok : ∀ t ∈ ts, OkT t
 one : ∃ t ∈ ts, ∃ g ∈ gs, t.pas g
 two : ∀ x ∈ gs, ∀ y ∈ gs, x.p < y.p → ∃ t ∈ ts, ∀ g : G, t.pas g ↔ ED (x.f * y.p - y.h * x.p) (y.h - x.f) (y.p - x.p) g
def JM (gs : List G) (t : Thr) : Nat := (gs.filter fun g => decide (t.pas g)).length
theorem O6 {gs : List G} {ts : List Thr} {t : Thr} (T : TR gs ts) (ok : ∀ g ∈ gs, OkG g) (ha : Asc gs) (best : ∀ t' ∈ ts, JM gs t' ≤ JM gs t) (u w m : Int) (hm : 0 < m) (ps : List G) (hs : ps.Sublist gs) (hp : ∀ g ∈ ps, ED u w m g) : ps.length ≤ JM gs t := by
 match ps, hs, hp with
 | [], _, _ => exact Nat.zero_le _
 | [x], _, _ =>
  obtain ⟨t', ht, g, hg, p⟩ := T.one
  have : 0 < JM gs t' := List.length_pos_iff.mpr fun z => by
   have : g ∈ gs.filter fun g => decide (t'.pas g) := List.mem_filter.mpr ⟨hg, decide_eq_true p⟩
   rw [z] at this
   exact absurd this (by simp)
  exact Nat.le_trans this (best t' ht)
 | x0 :: y0 :: r, hs, hp =>
  generalize hr : x0 :: y0 :: r = ps at *
  have ap : Asc ps := List.Pairwise.sublist hs ha
  have hx0 : x0 ∈ ps := by rw [← hr]; simp
  have hy0 : y0 ∈ ps := by rw [← hr]; simp
  have l0 : x0.p < y0.p := by
   rw [← hr] at ap
   exact (List.pairwise_cons.mp ap).1 y0 (by simp)
  obtain ⟨x, hx, y, hy, l, all⟩ := R6 (fun g hg => ok g (hs.subset hg)) ap (PN ap hm hp) hx0 hy0 l0
  obtain ⟨t', ht, hpas⟩ := T.two x (hs.subset hx) y (hs.subset hy) l
  have hf := hs.filter fun g => decide (t'.pas g)
  rw [List.filter_eq_self.mpr fun g hg => decide_eq_true ((hpas g).mpr (all g hg))] at hf
  exact Nat.le_trans hf.length_le (best t' ht)
end TG
set_option maxRecDepth 100000
set_option maxHeartbeats 4000000
namespace LM
open PySem PySem.Spec PySem.Calls PyProof.Rows PySem.W L2
abbrev GO (x : Str) (p1 p2 p3 p4 p5 : Pos) : Expr := .Call (.Name "len" p1) [.Subscript (.Name x p2) (.Constant (.int 0) 0 p3) p4] [] p5
section
variable {prog : Program} {w : World} {A : Around} {E : Value → Shared → Prop} {s : Shared}
theorem Rh {q t l c' : Addr} {x name qual : Str} {params : Arguments} {scope : Scope} {pm ctv : Value} {p1 p2 p3 p4 p5 : Pos} {mg mb : Str → Option Value} {its lits : Array Value} {Q : Value → Shared → Prop}
  (hq : s.heap.get? q = some (kla_obj name qual params (GO x p1 p2 p3 p4 p5) scope [] pm c' ctv)) (hcd : s.heap.CodeRec (.ref c') qual) (hroom : A.in1.depth < recursionLimit)
  (hbind : ∀ v, bindArgs (kla_fn name qual params (GO x p1 p2 p3 p4 p5) scope [] pm (.ref c') ctv) ⟨[v], []⟩ = pure [(x, v)])
  (hx : scope.names.lookup x = some .local) (hl : scope.names.lookup ("len" : Str) = some .globalImplicit) (hcell : ∀ y ∈ scope.names, y.2 ≠ .cell) (hk : scope.kind = .function) (hco : scope.isCoroutine = false) (hgen : scope.isGenerator = false)
  (hdx : (x == ("__debug__" : Str)) = false)
  (hg : s.heap.Ns mainGlobals mg) (hm : mg "len" = none) (hb : s.heap.Ns builtinsNs mb) (hbb : mb "len" = bootBuiltins "len") (hlim : s.heap.NoLimit)
  (ht : IsTup s.heap t its) (h0 : its[0]? = some (.ref l)) (hsz : its.size ≤ sizeLine) (hls : s.heap.IsList l lits) (hlz : lits.size ≤ sizeLine)
  (h : ∀ h' tk u, (∀ b o, s.heap.get? b = some o → h'.get? b = some o) → Q (.int lits.size u) { s with heap := h', toks := tk }) :
  wpAny (model prog w) A.in1 (call (.ref q) [.ref t]) Q E s := by
 refine wpAny_call ?_
 refine kla_callFunE hroom hq rfl hco hgen rfl hcd ?_
 rw [hbind]
 refine wpAny_pure (wpAny_newFunctionEnv hcell (by intro y hy; rw [List.mem_singleton.mp hy]; exact hx) (fun h₁ hns hsb => ?_) hk)
 have hk₁ : ∀ b o, s.heap.get? b = some o → h₁.get? b = some o := fun b o e => hsb.extBut b o (Nat.ne_of_lt (Heap.lt_size e)) (Heap.get?_push_of_some _ e)
 refine ⟨hlim.keeps hk₁, ?_⟩
 refine kla_codeExpr ?_
 refine wpAny_Call_Name_kw (Calls.Name_function_global hk hl (Calls.loadGlobal_builtin (hg.keeps hk₁) hm (hb.keeps hk₁) (hbb.trans rfl) ?_) (by decide))
 refine PyProof.Rows.callWith_builtin1 ?_ rfl rfl
 show wpAny _ _ (spliced ((false, eval (.Subscript (.Name x p2) (.Constant (.int 0) 0 p3) p4) _) :: [])) _ _ _
 refine Calls.spliced_cons ?_
 refine Subscript_ (wpAny_Name (wpAny_loadName_local (v := .ref t) hk hx hns (by simp) ?_) hdx)
 refine wpAny_Constant_int ?_
 have ht' := ht.keeps hk₁
 have hls' : h₁.IsList l lits := by obtain ⟨o, e, r⟩ := hls; exact ⟨o, hk₁ _ _ e, r⟩
 have hn := Lk
 refine subscriptTail_builtinR (x := .ref l) ht'.typeIs slot_tuple_getitem.lookup
  (getItem_tuple (j := 0) ht' (by decide) (by decide) (seqIndex_of (by decide) ?_) h0 ⟨rfl, ?_⟩)
 ·have : 0 < its.size := by
   rcases Nat.eq_zero_or_pos its.size with z | z
   ·rw [Array.getElem?_eq_none (by omega)] at h0; cases h0
   ·exact z
  omega
 refine Calls.spliced_nil ?_
 exact Calls.call_len_list hls' (by omega) (h _ _ _ hk₁)
theorem Sv {L l q c' : Addr} {m : Str → Option Value} {x name qual : Str} {params : Arguments} {scope : Scope} {pm ctv : Value} {p1 p2 p3 p4 p5 : Pos} {mg mb : Str → Option Value} {vs : List Value} {kf : Nat → Nat} {Q : Value → Shared → Prop}
  (hL : s.heap.Ns L m) (hqL : q ≠ L) (hcL : c' ≠ L) (hh : A.handled = none) (hgL : mainGlobals ≠ L) (hbL : builtinsNs ≠ L)
  (hq : s.heap.get? q = some (kla_obj name qual params (GO x p1 p2 p3 p4 p5) scope [] pm c' ctv)) (hcd : s.heap.CodeRec (.ref c') qual) (hroom : A.in1.depth < recursionLimit)
  (hbind : ∀ v, bindArgs (kla_fn name qual params (GO x p1 p2 p3 p4 p5) scope [] pm (.ref c') ctv) ⟨[v], []⟩ = pure [(x, v)])
  (hx : scope.names.lookup x = some .local) (hl : scope.names.lookup ("len" : Str) = some .globalImplicit) (hcell : ∀ y ∈ scope.names, y.2 ≠ .cell) (hk : scope.kind = .function) (hco : scope.isCoroutine = false) (hgen : scope.isGenerator = false)
  (hdx : (x == ("__debug__" : Str)) = false)
  (hg : s.heap.Ns mainGlobals mg) (hm : mg "len" = none) (hb : s.heap.Ns builtinsNs mb) (hbb : mb "len" = bootBuiltins "len") (hlim : ∀ h : Heap, (∀ b o, b ≠ L → s.heap.get? b = some o → h.get? b = some o) → h.NoLimit)
  (hll : s.heap.IsList l vs.toArray) (hlL : l ≠ L) (hne : 0 < vs.length)
  (hvs : ∀ (i : Nat) (v : Value), vs[i]? = some v → ∃ t pl its lits, v = .ref t ∧ t ≠ L ∧ pl ≠ L ∧ IsTup s.heap t its ∧ its[0]? = some (.ref pl) ∧ its.size ≤ sizeLine ∧ s.heap.IsList pl lits ∧ lits.size ≤ sizeLine ∧ lits.size = kf i)
  (h : ∀ i v h' tk', vs[i]? = some v → (∀ j, j < vs.length → kf j ≤ kf i ∧ (j < i → kf j < kf i)) → h'.Ns L m → (∀ b o, b ≠ L → s.heap.get? b = some o → h'.get? b = some o) → Q v { s with heap := h', toks := tk' }) :
  wpAny (model prog w) A (call (.builtin "max") [.ref l] [(Str.ofString "key", .ref q)]) Q E s := by
 obtain ⟨oL, _, _, hoL, _⟩ := id hL
 have hN : News (Att.noObjs s.heap) L s.heap (Att.ledger s.heap L L) := fun ⟨a, o⟩ hp => ⟨(Att.mem_ledger.mp hp).2.2, (Att.mem_ledger.mp hp).1, Att.noObjs_get _ _⟩
 have kOf : ∀ {h : Heap} {own : List (Addr × Obj)}, News (Att.noObjs s.heap) L h (Att.ledger s.heap L L ++ own) → ∀ b o, b ≠ L → s.heap.get? b = some o → h.get? b = some o :=
  fun N b o nb e => (N (b, o) (List.mem_append_left _ (Att.mem_ledger.mpr ⟨nb, nb, e⟩))).1
 have kOf' : ∀ {h : Heap}, News (Att.noObjs s.heap) L h (Att.ledger s.heap L L) → ∀ b o, b ≠ L → s.heap.get? b = some o → h.get? b = some o :=
  fun N b o nb e => (N (b, o) (Att.mem_ledger.mpr ⟨nb, nb, e⟩)).1
 refine kmk_max (fun i => (kf i : Int)) hh (Att.fr_all hL) hN (fun h' F N => ?_) hne (fun i v hv h' tk own F N => ?_) fun i v h' tk' hv hbest F N => ?_
 ·obtain ⟨o, e, r⟩ := hll
  exact ⟨o, kOf' N _ _ hlL e, r⟩
 ·obtain ⟨t, pl, its, lits, rfl, ntL, nplL, ht, h0, hsz, hpl, hlz, hkf⟩ := hvs i v hv
  have k := kOf N
  refine Rh (s := { s with heap := h', toks := tk }) (its := its) (lits := lits) (l := pl) (mg := mg) (mb := mb) (k _ _ hqL hq) ?_ hroom hbind hx hl hcell hk hco hgen hdx ?_ hm ?_ hbb (hlim h' k) ?_ h0 hsz ?_ hlz fun h'' tk2 u k2 => ?_
  ·obtain ⟨c, oc, vs, tq, hc, hoc, r⟩ := hcd
   cases hc
   exact ⟨c', oc, vs, tq, rfl, k _ _ hcL hoc, r⟩
  ·obtain ⟨o, es, ep, e, r⟩ := hg
   exact ⟨o, es, ep, k _ _ hgL e, r⟩
  ·obtain ⟨o, es, ep, e, r⟩ := hb
   exact ⟨o, es, ep, k _ _ hbL e, r⟩
  ·obtain ⟨o, e, r⟩ := ht
   exact ⟨o, k _ _ ntL e, r⟩
  ·obtain ⟨o, e, r⟩ := hpl
   exact ⟨o, k _ _ nplL e, r⟩
  ·rw [hkf]
   refine ⟨h'', tk2, u, rfl, rfl, ⟨F.ns.keeps k2, fun b o e => ?_, F.above⟩, fun p hp => ⟨k2 _ _ (N p hp).1, (N p hp).2⟩⟩
   rw [Att.noObjs_get] at e; cases e
 ·exact h i v h' tk' hv (fun j hj => by have := hbest j hj; exact ⟨by have := this.1; omega, fun z => by have := this.2 z; omega⟩) F.ns (kOf' N)
end
def Tbl (H : Hp) (P : Addr) (pos : Pos) (qual : Str) : Prop :=
 H P = some (.tbl #[]) ∨ ∃ c o u vs t, H P = some (.tbl #[rawInt pos.line, rawInt pos.col, .ref c]) ∧ H c = some (.frz o u) ∧ o.data = .fields vs ∧ vs[1]? = some (.str qual t)
theorem Tbl.tab {H : Hp} {P : Addr} {pos : Pos} {qual : Str} (h : Tbl H P pos qual) : ∃ ps, H P = some (.tbl ps) := by
 rcases h with h | ⟨c, _, _, _, _, h, _⟩
 ·exact ⟨_, h⟩
 ·exact ⟨_, h⟩
section
variable {X : Cx} {pins : List (Addr × Obj)} {σ : L2.St} {H : Hp} {s : Shared} {h' : Heap}
theorem Rx {h h' : Heap} {L : Addr} {m m' : Str → Option Value} (a : h.Ns L m) (b : h'.Ns L m) (c : h.Ns L m') : h'.Ns L m' := by
 rw [c.eq_nsMap, ← a.eq_nsMap]; exact b
theorem keptL {t' : Nat} {m : Str → Option Value} (I : Inv X pins σ H s) (hm : s.heap.Ns X.env.locals m) (hm' : h'.Ns X.env.locals m) (k : ∀ b o, b ≠ X.env.locals → s.heap.get? b = some o → h'.get? b = some o) : Inv X pins σ H { s with heap := h', toks := t' } := by
 have nL : ∀ b u, H b = some u → b ≠ X.env.locals := fun b u e z => by rw [z, I.free] at e; cases e
 refine I.step (g' := s.gens) (d' := s.drawn) (ch := []) (fun _ z => nomatch z) (fun b o hb _ _ e _ => k b o hb e) (fun b o hb _ _ e _ => ⟨o.slots, k b o hb e⟩) (fun _ _ _ _ n => n) (fun b o _ e => ?_) (fun _ _ e => e) (fun _ _ _ e => e) (fun b ps e => ⟨#[], by rw [e]; simp⟩) (fun m2 h2 => Rx hm hm' h2) (fun b u e => ?_) I.bare
 ·by_cases hb : b = X.env.locals
  ·obtain ⟨o', _, _, e', _⟩ := hm'
   exact ⟨o', by rw [hb]; exact e'⟩
  ·exact ⟨o, k b o hb e⟩
 ·refine (I.hok b u e).stay (fun c v hc q => k c v ?_ q) (fun _ q => q) fun _ _ q => q
  rcases hc with rfl | hc
  ·exact nL _ _ e
  ·exact nL _ _ hc
theorem T8 {t' : Nat} {m : Str → Option Value} {P c : Addr} {ps : Array Value} {v : Value} {l1 l2 : Value} {oc : Obj} (I : Inv X pins σ H s) (hP : H P = some (.tbl ps)) (hc : s.heap.objs.size ≤ c) (hcL : c ≠ X.env.locals) (hm : s.heap.Ns X.env.locals m) (hm' : h'.Ns X.env.locals m)
  (k : ∀ b o, b ≠ X.env.locals → b ≠ P → s.heap.get? b = some o → h'.get? b = some o) (kP : h'.get? P = some (PySem.W.tabObj (ps ++ #[l1, l2, v]))) (kc : h'.get? c = some oc) :
  Inv X pins σ (upd (upd H P (.tbl (ps ++ #[l1, l2, v]))) c (.frz oc (.ext fun _ => True))) { s with heap := h', toks := t' } := by
 have nL : ∀ b u, H b = some u → b ≠ X.env.locals := fun b u e z => by rw [z, I.free] at e; cases e
 have nc : ∀ b u, H b = some u → b ≠ c := fun b u e z => by rw [z, I.hok.fresh hc] at e; cases e
 have nc' : ∀ b o, s.heap.get? b = some o → b ≠ c := fun b o e => Nat.ne_of_lt (Nat.lt_of_lt_of_le (Heap.lt_size e) hc)
 have nP : ∀ b, H b = none → b ≠ P := fun b e z => by rw [z, hP] at e; cases e
 have get : ∀ b u, H b = some u → b ≠ P → upd (upd H P (.tbl (ps ++ #[l1, l2, v]))) c (.frz oc (.ext fun _ => True)) b = some u := fun b u e z => by rw [AG (nc b u e), AG z]; exact e
 refine I.step (g' := s.gens) (d' := s.drawn) (ch := []) (fun _ z => nomatch z) (fun b o hb _ _ e n => k b o hb (nP b n) e) (fun b o hb _ _ e n => ⟨o.slots, k b o hb (nP b n) e⟩) (fun b o _ e n => by rw [AG (nc' b o e), AG (nP b n)]; exact n) (fun b o _ e => ?_)
  (fun b xs e => get b _ e fun z => by rw [z, hP] at e; cases e) (fun b o u e => get b _ e fun z => by rw [z, hP] at e; cases e) (fun b qs e => ?_) (fun m2 h2 => Rx hm hm' h2) (fun b u e => ?_) I.bare
 ·by_cases hb : b = X.env.locals
  ·obtain ⟨o', _, _, e', _⟩ := hm'
   exact ⟨o', by rw [hb]; exact e'⟩
  ·by_cases hb2 : b = P
   ·exact ⟨_, by rw [hb2]; exact kP⟩
   ·exact ⟨o, k b o hb hb2 e⟩
 ·by_cases hb : b = P
  ·subst hb
   rw [hP] at e; cases e
   exact ⟨#[l1, l2, v], by rw [AG (nc b _ hP), AO]⟩
  ·exact ⟨#[], by rw [get b _ e hb]; simp⟩
 ·by_cases hb : b = c
  ·subst hb
   rw [AO] at e; cases e
   exact ⟨kc, trivial, ⟨_, kc⟩, fun _ _ _ _ => trivial⟩
  ·rw [AG hb] at e
   by_cases hb2 : b = P
   ·subst hb2
    rw [AO] at e; cases e
    exact kP
   ·rw [AG hb2] at e
    refine (I.hok b u e).stay (fun d w hd q => k d w ?_ ?_ q) (fun d q => get d _ q fun z => by rw [z, hP] at q; cases q) fun d xs q => get d _ q fun z => by rw [z, hP] at q; cases q
    ·rcases hd with rfl | hd
     ·exact nL _ _ e
     ·exact nL _ _ hd
    ·rcases hd with rfl | hd
     ·exact hb2
     ·intro z; rw [z, hP] at hd; cases hd
end
structure N9 (K : PySem.W.Frag) (mg : Str → Option Value) (cd : Value) (c P : Addr) : Prop where
 cd : cd = .ref c
 hd : ∀ h, K.In h → PySem.W.CodeHd h c P
 bm : ∀ h, K.In h → ∃ bm o, mg "__builtins__" = some (.ref bm) ∧ bm ≠ builtinsNs ∧ bm ≠ mainGlobals ∧ h.get? bm = some o ∧ o.cls = .type "module" ∧ o.dict = some builtinsNs ∧ o.data = .plain
structure LamOk (x : Str) (params : Arguments) (scope : Scope) : Prop where
 df : params.defaults = []
 kd : params.kw_defaults = []
 bind : ∀ name qual body cl pm cdv ct v, bindArgs (kla_fn name qual params body scope cl pm cdv ct) ⟨[v], []⟩ = pure [(x, v)]
 hx : scope.names.lookup x = some .local
 hl : scope.names.lookup ("len" : Str) = some .globalImplicit
 cell : ∀ y ∈ scope.names, y.2 ≠ .cell
 kind : scope.kind = .function
 co : scope.isCoroutine = false
 gen : scope.isGenerator = false
 db : (x == ("__debug__" : Str)) = false
 clos : ∀ env, closureFor scope env = pure []
def tMaxK (K : PySem.W.Frag) (P : Addr) (lpos : Pos) (qual : Str) (t : TE) : TE := fun σ H Q => t σ H fun v H1 => ∃ (l : Addr) (xs : List V) (kf : Nat → Nat), v = .ref l ∧ SqL K H1 l xs ∧ 0 < xs.length ∧ Tbl H1 P lpos qual ∧
 (∀ i y, xs[i]? = some y → ∃ p pl z ys, y = .ref p ∧ SqT K H1 p (.ref pl :: z) ∧ SqL K H1 pl ys ∧ ys.length = kf i) ∧
 ∀ i y H2, xs[i]? = some y → (∀ j, j < xs.length → kf j ≤ kf i ∧ (j < i → kf j < kf i)) → Tbl H2 P lpos qual → (∀ b u, b ≠ P → H1 b = some u → H2 b = some u) → Q y H2
section
variable {X : Cx}
theorem Sq {c P : Addr} {x : Str} {e : Expr} {te : TE} {params : Arguments} {scope : Scope} {p p1 p2 p3 p4 p5 lpos kp pos : Pos} (hg : Gl X "max") (hm : X.mg "max" = none) (hml : X.mg "len" = none) (hr : Bz 2 X.A) (LA : N9 X.K X.mg X.env.code c P) (LO : LamOk x params scope) (hpe : PE X e te)
  (hse : starEach [e] X.env = (false, eval e X.env) :: starEach [] X.env := by rfl) :
  PE X (.Call (.Name "max" p) [e] [⟨some "key", .Lambda params (GO x p1 p2 p3 p4 p5) scope lpos, kp⟩] pos) (tMaxK X.K P lpos (X.env.qual ++ "<lambda>") te) := by
 intro pins s σ H Q I h
 refine wpAny_Call_Name_kw (HQ I hg hm (u := .builtin "max") rfl ?_)
 refine callWith_kw ?_ (by rw [hse]; rfl) (by rw [hse]; rfl) rfl rfl
 rw [hse]
 show wpAny _ _ (spliced ((false, eval e X.env) :: [])) _ _ s
 refine Calls.spliced_cons (thn (hpe pins s σ H _ I h) fun u s1 ⟨v, H1, I1, r1, q1⟩ => Calls.spliced_nil ?_)
 obtain ⟨l, xs, kf, rfl, hl, h0, tb, hxs, k⟩ := q1
 cases r1
 refine kws_cons (kla_eval (by rw [defaultsOf_eq, LO.df, LO.kd]; rfl) ?_)
 obtain ⟨its, ri, pl, hz⟩ := I1.list hl
 obtain ⟨m, hn, hlook⟩ := id I1.loc
 obtain ⟨mb, hb1, hb2⟩ := I1.mod.blt
 have hG := I1.mod.glob.keeps I1.bk
 have hB := hb1.keeps I1.bk
 obtain ⟨ps, hP⟩ := tb.tab
 have gP : s1.heap.get? P = some (PySem.W.tabObj ps) := I1.hok P _ hP
 have nLP : X.env.locals ≠ P := fun z => by have := I1.free; rw [z, hP] at this; cases this
 have bP : ∀ b o, X.base.get? b = some o → b ≠ P := fun b o e z => by have := (I1.bs b o e).2; rw [z, hP] at this; cases this
 have bL : ∀ b o, X.base.get? b = some o → b ≠ X.env.locals := fun b o e => Nat.ne_of_lt (Nat.lt_of_lt_of_le (Heap.lt_size e) (Nat.le_trans I1.ok.bsz I1.ok.above))
 have gM : ∃ o, X.base.get? mainGlobals = some o := let ⟨o, _, _, e, _⟩ := I1.mod.glob; ⟨o, e⟩
 have gB : ∃ o, X.base.get? builtinsNs = some o := let ⟨o, _, _, e, _⟩ := hb1; ⟨o, e⟩
 have lstN : ∀ a its, s1.heap.IsList a its → a ≠ P ∧ a ≠ X.env.locals := fun a its ⟨o, e, c1, n, d1⟩ => by
  refine ⟨fun z => ?_, fun z => ?_⟩
  ·rw [z, gP] at e; cases e; cases c1
  ·obtain ⟨o', _, _, e', d', _⟩ := id hn
   rw [z, e'] at e; cases e; rw [d'] at d1; cases d1
 have tupN : ∀ a its, IsTup s1.heap a its → a ≠ P ∧ a ≠ X.env.locals := fun a its ⟨o, e, c1, n, d1⟩ => by
  refine ⟨fun z => ?_, fun z => ?_⟩
  ·rw [z, gP] at e; cases e; cases c1
  ·obtain ⟨o', _, _, e', d', _⟩ := id hn
   rw [z, e'] at e; cases e; rw [d'] at d1; cases d1
 have run : ∀ (h2 : Heap) (tk : Nat) (q c' : Addr) (ctv : Value), (∀ b o, b ≠ P → s1.heap.get? b = some o → h2.get? b = some o) → q ≠ X.env.locals → c' ≠ X.env.locals →
   h2.get? q = some (kla_obj "<lambda>" (X.env.qual ++ "<lambda>") params (GO x p1 p2 p3 p4 p5) scope [] ((X.mg "__name__").getD .none) c' ctv) → h2.CodeRec (.ref c') (X.env.qual ++ "<lambda>") →
   (∀ (h3 : Heap) (tk3 : Nat), h3.Ns X.env.locals m → (∀ b o, b ≠ X.env.locals → h2.get? b = some o → h3.get? b = some o) → ∃ H2, Inv X pins σ H2 { s1 with heap := h3, toks := tk3 } ∧ Tbl H2 P lpos (X.env.qual ++ "<lambda>") ∧ ∀ b u, b ≠ P → H1 b = some u → H2 b = some u) →
   wpAny (model X.prog X.w) X.A (call (.builtin "max") [.ref l] [(Str.ofString "key", .ref q)]) (EP X pins σ Q) X.xe { s1 with heap := h2, toks := tk } := by
  intro h2 tk q c' ctv k2 hqL hcL hq hcd fin
  have ll := lstN l _ pl.isList
  refine Sv (s := { s1 with heap := h2, toks := tk }) (L := X.env.locals) (m := m) (mg := X.mg) (mb := mb) (vs := its) (kf := kf) ?_ hqL hcL hr.hd ?_ ?_ hq hcd ?_ (fun v => LO.bind _ _ _ _ _ _ _ v) LO.hx LO.hl LO.cell LO.kind LO.co LO.gen LO.db ?_ hml ?_ (hb2 _ (by decide)) (fun h3 k3 => ?_) ?_ ll.2 ?_ (fun i v hv => ?_) fun i v h3 tk3 hv best hns k3 => ?_
  ·obtain ⟨o, es, ep, e, r⟩ := hn
   exact ⟨o, es, ep, k2 _ _ nLP e, r⟩
  ·obtain ⟨o, e⟩ := gM
   exact bL _ _ e
  ·obtain ⟨o, e⟩ := gB
   exact bL _ _ e
  ·have := hr.dp
   show X.A.depth < _
   omega
  ·exact I1.mod.glob.keeps fun b o e => k2 b o (bP b o e) (I1.bk b o e)
  ·exact hb1.keeps fun b o e => k2 b o (bP b o e) (I1.bk b o e)
  ·exact I1.mod.nolimit.keeps fun b o e => k3 b o (bL b o e) (k2 b o (bP b o e) (I1.bk b o e))
  ·obtain ⟨o, e, r⟩ := pl.isList
   exact ⟨o, k2 _ _ ll.1 e, r⟩
  ·rw [← ri.length]; exact h0
  ·have hi := (List.getElem?_eq_some_iff.mp hv).1
   have hi' : i < xs.length := by rw [ri.length]; exact hi
   obtain ⟨v', ev', rv'⟩ := ri.get (List.getElem?_eq_getElem hi')
   rw [hv] at ev'; cases ev'
   obtain ⟨pp, pa, z, ys, ey, hT, hLs, hlen⟩ := hxs i _ (List.getElem?_eq_getElem hi')
   rw [ey] at rv'
   cases rv'
   obtain ⟨it2, r2, pt, hz2⟩ := I1.tuple hT
   obtain ⟨it3, r3, pl3, hz3⟩ := I1.list hLs
   obtain ⟨w0, ew0, rw0⟩ := r2.get (i := 0) (x := .ref pa) rfl
   cases rw0
   have t1 := tupN _ _ pt
   have t2 := lstN _ _ pl3.isList
   refine ⟨pp, pa, it2.toArray, it3.toArray, rfl, t1.2, t2.2, ?_, by simpa using ew0, ?_, ?_, ?_, ?_⟩
   ·obtain ⟨o, e, r⟩ := pt
    exact ⟨o, k2 _ _ t1.1 e, r⟩
   ·rw [List.size_toArray, ← r2.length]; exact hz2
   ·obtain ⟨o, e, r⟩ := pl3.isList
    exact ⟨o, k2 _ _ t2.1 e, r⟩
   ·rw [List.size_toArray, ← r3.length]; exact hz3
   ·rw [List.size_toArray, ← r3.length]; exact hlen
  ·have hi := (List.getElem?_eq_some_iff.mp hv).1
   have hi' : i < xs.length := by rw [ri.length]; exact hi
   obtain ⟨v', ev', rv'⟩ := ri.get (List.getElem?_eq_getElem hi')
   rw [hv] at ev'; cases ev'
   obtain ⟨H2, I2, tb2, s2⟩ := fin h3 tk3 hns k3
   exact ⟨_, H2, I2, rv', k i _ H2 (List.getElem?_eq_getElem hi') (fun j hj => best j (by rw [← ri.length]; exact hj)) tb2 s2⟩
 obtain ⟨bm, ob, b1, b2, b3, b4, b5⟩ := LA.bm _ I1.mod.kin
 have hBA : s1.heap.BuiltinsAt X.mg P := ⟨bm, ob, b1, b2, b3, bP _ _ b4, I1.bk _ _ b4, b5⟩
 have hCH : PySem.W.CodeHd s1.heap c P := LA.hd _ I1.kIn
 have hgP : mainGlobals ≠ P := let ⟨_, e⟩ := gM; bP _ _ e
 have lL : X.env.locals < s1.heap.objs.size := I1.lt
 rcases id tb with tb0 | ⟨c0, o0, u0, vs0, t0, e1, e2, e3, e4⟩
 ·-- the first call
  rw [hP] at tb0; cases tb0
  refine kla_makeFunction (LO.clos _) I1.ok.glob hG LA.cd hCH gP trivial rfl hgP hBA fun c' ctv h' tk hx hge hlt hrec htb => ?_
  refine kws_nil ?_
  obtain ⟨c2, oc, vs2, t2, ec, goc, hd2, hv2⟩ := id hrec
  cases ec
  have ncP : c' ≠ P := Nat.ne_of_gt (Nat.lt_of_lt_of_le (Heap.lt_size gP) hge)
  refine run _ _ _ c' ctv (fun b o n e => Heap.get?_push_of_some _ (hx b o n e)) ?_ (Nat.ne_of_gt (Nat.lt_of_lt_of_le lL hge)) (Heap.get?_push_size _ rfl) ⟨c', oc, vs2, t2, rfl, Heap.get?_push_of_some _ goc, hd2, hv2⟩ fun h3 tk3 ns3 k3 => ?_
  ·exact Nat.ne_of_gt (Nat.lt_trans (Nat.lt_of_lt_of_le lL hge) hlt)
  ·refine ⟨_, T8 (c := c') (oc := oc) I1 hP hge (Nat.ne_of_gt (Nat.lt_of_lt_of_le lL hge)) hn ns3 (fun b o n1 n2 e => k3 b o n1 (Heap.get?_push_of_some _ (hx b o n2 e))) (k3 _ _ (Ne.symm nLP) (Heap.get?_push_of_some _ htb)) (k3 _ _ (Nat.ne_of_gt (Nat.lt_of_lt_of_le lL hge)) (Heap.get?_push_of_some _ goc)), .inr ⟨c', oc, _, vs2, t2, ?_, AO, hd2, hv2⟩, fun b u n e => ?_⟩
   ·rw [AG (Ne.symm ncP), AO]; rfl
   ·rw [AG (fun z => by rw [z, I1.hok.fresh hge] at e; cases e), AG n]; exact e
 ·-- a later call
  rw [hP] at e1; cases e1
  obtain ⟨g0, _⟩ := I1.hok c0 _ e2
  have n0L : c0 ≠ X.env.locals := fun z => by have := I1.free; rw [← z, e2] at this; cases this
  refine kla_makeFunctionHit (cv := .ref c0) (LO.clos _) I1.ok.glob hG LA.cd hCH gP ?_ ?_ hBA fun ctv h' tk hx hsz => ?_
  ·exact TriplesOk_snoc _ _ _ [] trivial
  ·exact codeAmong_snoc [] trivial rfl
  refine kws_nil ?_
  refine run _ _ _ c0 ctv (fun b o _ e => Heap.get?_push_of_some _ (hx b o e)) (Nat.ne_of_gt (Nat.lt_of_lt_of_le lL hsz)) n0L (Heap.get?_push_size _ rfl) ⟨c0, o0, vs0, t0, rfl, Heap.get?_push_of_some _ (hx _ _ g0), e3, e4⟩ fun h3 tk3 ns3 k3 => ?_
  exact ⟨H1, keptL I1 hn ns3 fun b o n e => k3 b o n (Heap.get?_push_of_some _ (hx b o e)), tb, fun _ _ _ e => e⟩
end
def RW (T : Addr) (H : Hp) : Prop := H T = some (.tbl #[]) ∧ ∀ b, H b = none ∨ (∃ o xs, H b = some (.frz o (.lst xs))) ∨ b = T
theorem QS {T : Addr} {P : Program} {w : World} {K : PySem.W.Frag} {mg mb : Str → Option Value} {CX : CXT} {k : Nat} {fa a : Addr} {fd : FuncData} {x : Str} {sp : Sp} {s₁ : Shared} {vs : List Value} {ns : List Int}
  (KX : K.In s₁.heap) (hT : s₁.heap.get? T = some (PySem.W.tabObj #[])) (isT : isCodeTable s₁.heap T) (hKT : K.lookup T = none) (hns : s₁.heap.Ns mainGlobals mg) (hb : s₁.heap.Ns builtinsNs mb) (hbb : ∀ x : Str, x ≠ "__name__" → mb x = bootBuiltins x) (hlim : s₁.heap.NoLimit) (hg : s₁.gens = #[])
  (ha : s₁.heap.get? a = some { cls := .type "list", data := .seq vs.toArray }) (hi : IntsAre vs ns) (hl : ns.length ≤ sizeLine) (hr : Bz k callerA)
  (F : ∀ base : Heap, K.In base → base.Ns mainGlobals mg → Ah P w K mg base CX k fa fd [x] sp) (hbind : ∀ (s : Shared) (u : Value), BindsTo s fd ⟨[u], []⟩ [(x, u)])
  (hsp : ∀ H : Hp, RW T H → SqL K H a (ns.map V.int) → sp [.ref a] H (fun v _ => v = .bl true) fun _ _ _ => False)
  (hCX : ∀ H e s', CX [] H s₁ (fun _ _ _ => False) e s' → False) :
  codeAny (model P w) callerA (.call (.ref fa) ⟨[.ref a], []⟩) (fun r s' => r = .ok (.ret (.bool true)) ∧ OldK s₁.heap s'.heap ∧ s'.os = s₁.os ∧ AllBare s'.gens) s₁ := by
 have rv := Mh hi
 have lenV := hi.length
 have core : ∀ H : Hp, RW T H → SqL K H a (ns.map V.int) → HOk P w H s₁.heap → (∀ b, H b ≠ none → b = a ∨ b = T) → (H a ≠ none → K.lookup a = none) →
   codeAny (model P w) callerA (.call (.ref fa) ⟨[.ref a], []⟩) (fun r s' => r = .ok (.ret (.bool true)) ∧ OldK s₁.heap s'.heap ∧ s'.os = s₁.os ∧ AllBare s'.gens) s₁ := by
  intro H hO hS hok hA hK
  have base_of : ∀ {b : Addr} {o : Obj}, s₁.heap.get? b = some o → H b = none → (NG s₁.heap H).get? b = some o := fun e n => Rs e n
  have noA : ∀ {b : Addr} {o : Obj} {es : Array DictEntry} {ep : Nat}, s₁.heap.get? b = some o → o.data = .dict es ep → H b = none := fun {b o es ep} e d => by
   cases q : H b with
   | none => rfl
   | some u =>
    rcases hA b (by rw [q]; simp) with e' | e'
    ·subst e'
     rw [ha] at e; cases e
     have d' : Data.seq vs.toArray _ = Data.dict es ep := d
     cases d'
    ·subst e'
     rw [hT] at e; cases e
     have d' : Data.fields _ = Data.dict es ep := d
     cases d'
  have nsK : ∀ {b : Addr} {m : Str → Option Value}, s₁.heap.Ns b m → (NG s₁.heap H).Ns b m := fun {b m} ⟨o, es, ep, e, d, r⟩ => ⟨o, es, ep, base_of e (noA e d), d, r⟩
  have hKb : K.In (NG s₁.heap H) := fun b o e => base_of (KX b o e) (by
   cases q : H b with
   | none => rfl
   | some u =>
    rcases hA b (by rw [q]; simp) with e' | e'
    ·subst e'
     rw [hK (by rw [q]; simp)] at e; cases e
    ·subst e'
     rw [hKT] at e; cases e)
  have hM : Mod K mg (NG s₁.heap H) := ⟨hKb, nsK hns, ⟨mb, nsK hb, hbb⟩, let ⟨mc, h1, h2⟩ := hlim; ⟨mc, nsK h1, h2⟩⟩
  have e0 : PZ P w K mg (NG s₁.heap H) callerA [] s₁ H := ⟨rfl, hM, fun b o e => TD e, Nat.le_of_eq (Qh _ _), trivial, fun b hb => absurd (show b ∈ ([] : List Addr) from hb) (by simp), hok, .of_eq hg⟩
  refine codeAny_mono ((F _ hKb (nsK hns)).run callerA [] s₁ H ⟨[.ref a], []⟩ [.ref a] [.ref a] _ _ hr e0 (hbind s₁ (.ref a)) (.cons rfl .nil) (hsp H hO hS)) fun r s' h => ?_
  cases r with
  | error e => exact (hCX H e s' h).elim
  | ok fl =>
   cases fl with
   | next => exact False.elim h
   | brk => exact False.elim h
   | cont => exact False.elim h
   | ret u =>
    obtain ⟨v, H', os, bare, un, hok', r', q⟩ := h
    have q' : v = .bl true := q
    subst q'
    obtain rfl : u = Value.bool true := r'
    refine ⟨rfl, ⟨fun b o e => ?_, fun b o e => un.there b o e (by simp)⟩, os, bare⟩
    cases q : H b with
    | none => exact .inl (un.keep b o e q (by intro z; exact absurd (show b ∈ ([] : List Addr) from z) (by simp)) (by simp))
    | some u =>
     rcases hO.2 b with z | ⟨ob, xs, z⟩ | z
     ·rw [q] at z; cases z
     ·have z2 := un.frzs b ob _ z
      obtain ⟨e1, _⟩ := hok b _ z
      obtain ⟨e2, _⟩ := hok' b _ z2
      rw [e] at e1; cases e1
      exact .inl e2
     ·subst z
      obtain ⟨more, z2⟩ := un.tbls b _ hO.1
      have e2 : s'.heap.get? b = some { cls := .none, data := .fields (#[] ++ more) } := hok' b _ z2
      rw [hT] at e; cases e
      exact .inr (.inl ⟨isT, rfl, #[], more, rfl, e2⟩)
 have naT : a ≠ T := fun z => by rw [z, hT] at ha; cases ha
 cases hk : K.lookup a with
 | some o =>
  have e := KX a o hk
  rw [ha] at e
  cases e
  refine core (fun b => if b = T then some (.tbl #[]) else none) ⟨if_pos rfl, fun b => ?_⟩ (.inr ⟨_, vs.toArray, _, hk, rfl, rfl, rfl, by rw [List.size_toArray, lenV]; exact hl, by simpa using rv⟩) (fun b u z => ?_) (fun b z => ?_) fun z => absurd (if_neg naT) z
  ·by_cases hb : b = T
   ·exact .inr (.inr hb)
   ·exact .inl (if_neg hb)
  ·by_cases hb : b = T
   ·have z' := (if_pos hb).symm.trans z
    cases z'
    subst hb
    exact hT
   ·have z' := (if_neg hb).symm.trans z
    cases z'
  ·by_cases hb : b = T
   ·exact .inr hb
   ·exact absurd (if_neg hb) z
 | none =>
  refine core (fun b => if b = T then some (.tbl #[]) else if b = a then some (.frz { cls := .type "list", data := .seq vs.toArray } (.lst (ns.map V.int))) else none) ⟨if_pos rfl, fun b => ?_⟩ (.inl (.inr ⟨{ cls := .type "list", data := .seq vs.toArray }, (if_neg naT).trans (if_pos rfl)⟩)) (fun b u z => ?_) (fun b z => ?_) fun _ => hk
  ·by_cases hb : b = T
   ·exact .inr (.inr hb)
   ·by_cases hb2 : b = a
    ·exact .inr (.inl ⟨_, _, (if_neg hb).trans (if_pos hb2)⟩)
    ·exact .inl ((if_neg hb).trans (if_neg hb2))
  ·by_cases hb : b = T
   ·have z' := (if_pos hb).symm.trans z
    cases z'
    subst hb
    exact hT
   ·by_cases hb2 : b = a
    ·have z' := ((if_neg hb).trans (if_pos hb2)).symm.trans z
     cases z'
     subst hb2
     exact ⟨ha, by rw [List.length_map]; exact hl, vs, _, rv, ha⟩
    ·have z' := ((if_neg hb).trans (if_neg hb2)).symm.trans z
     cases z'
  ·by_cases hb : b = T
   ·exact .inr hb
   ·by_cases hb2 : b = a
    ·exact .inl hb2
    ·exact absurd ((if_neg hb).trans (if_neg hb2)) z
theorem Fun.okL {P : Program} {w : World} {K : PySem.W.Frag} {mg : Str → Option Value} {base : Heap} {x qual : Str} {st : Stmt} {f c T : Addr} {fd : FuncData} {N ps : List Str} {k : Nat} {sp : Sp} (F : Fun K x qual st f fd) (L : N9 K mg fd.code c T) (S : AN N ps (AF st)) (len : ∀ vs H Q E, sp vs H Q E → vs.length = ps.length)
  (hbody : ∀ (cdv : Value) (A : Around) (outer : List Env) (s : Shared) (H : Hp) (vs : List V) (Q : VK) (E : XK), N9 K mg cdv c T → Bz k (A.deeper (envOfC qual (AF st) s.heap.objs.size f cdv)) → sp vs H Q E →
   ∃ t, PSs (Ez CX0 P w K mg base N qual (AF st) f cdv A outer s H E).nox (Bk st) t ∧ t { nx := fun _ H' => Q .non H', rt := Q } (start N vs) H) : Ah P w K mg base CX0 (k + 1) f fd ps sp := by
 obtain ⟨oc, od, kV, doc, pm, an, cdv, ct, osl, rfl, lk, hcd⟩ := F.ex
 refine Ri lk hcd S len fun A outer s H vs Q E hr hsp => ?_
 obtain ⟨t, h, q⟩ := hbody cdv A outer s H vs Q E L hr hsp
 exact ⟨t, h.nox, q⟩
def Fq : Option Obj → Bool
 | some ⟨.none, none, .fields vs, sl⟩ => Nat.beq vs.size 0 && Nat.beq sl.size 0
 | _ => false
theorem Rf {o : Option Obj} (h : Fq o = true) : o = some (PySem.W.tabObj #[]) := by
 unfold Fq at h
 split at h
 ·rename_i vs sl
  obtain ⟨h1, h2⟩ := Bool.and_eq_true_iff.mp h
  have e1 : vs = #[] := Array.eq_empty_of_size_eq_zero (Nat.eq_of_beq_eq_true h1)
  have e2 : sl = #[] := Array.eq_empty_of_size_eq_zero (Nat.eq_of_beq_eq_true h2)
  rw [e1, e2]
 ·cases h
def hdOk (vs : Array Value) (T : Addr) : Bool := match (vs[11]? : Option Value), vs.getD 18 .none, vs.getD 7 .none, vs.getD 9 .none, vs.getD 10 .none with
 | some (.ref P), .str _ _, .int _ _, .bool _, .int _ _ => Nat.beq P T
 | _, _, _, _, _ => false
def RN (K : PySem.W.Frag) (c T : Addr) : Bool := match K.lookup c with
 | some ⟨.type t, _, .fields vs, _⟩ => t == "code" && (hdOk vs T && !(Nat.beq c T))
 | _ => false
theorem OX {K : PySem.W.Frag} {c T : Addr} (h : RN K c T = true) (h' : Heap) (X : K.In h') : PySem.W.CodeHd h' c T ∧ isCodeTable h' T := by
 unfold RN at h
 split at h
 ·rename_i t dd vs sl e
  obtain ⟨h1, h2⟩ := Bool.and_eq_true_iff.mp h
  obtain ⟨h3, h4⟩ := Bool.and_eq_true_iff.mp h2
  obtain rfl : t = "code" := beq_iff_eq.mp h1
  unfold hdOk at h3
  split at h3
  ·rename_i P file tf flags tg inF text tt e11 e18 e7 e9 e10
   obtain rfl : P = T := Nat.eq_of_beq_eq_true h3
   refine ⟨⟨_, vs, file, tf, flags, tg, inF, text, tt, X _ _ e, rfl, rfl, e11, ?_, e18, e7, e9, e10, ?_⟩, ⟨c, _, vs, X _ _ e, rfl, rfl, e11⟩⟩
   ·rw [Array.getD_eq_getD_getElem?, e11]; rfl
   ·intro z
    rw [z, Nat.beq_refl] at h4
    cases h4
  ·cases h3
 ·cases h
def WM (K : PySem.W.Frag) : Bool := match PySem.W.nsIn K mainGlobals "__builtins__" with
 | some (some (.ref bm)) => !(Nat.beq bm builtinsNs) && (!(Nat.beq bm mainGlobals) && (match K.lookup bm with
  | some ⟨.type t, some d, .plain, _⟩ => t == "module" && Nat.beq d builtinsNs
  | _ => false))
 | _ => false
theorem SR {K : PySem.W.Frag} {h : Heap} {mg : Str → Option Value} (X : K.In h) (G : h.Ns mainGlobals mg) (e : WM K = true) (h' : Heap) (X' : K.In h') :
  ∃ bm o, mg "__builtins__" = some (.ref bm) ∧ bm ≠ builtinsNs ∧ bm ≠ mainGlobals ∧ h'.get? bm = some o ∧ o.cls = .type "module" ∧ o.dict = some builtinsNs ∧ o.data = .plain := by
 unfold WM at e
 split at e
 ·rename_i bm eb
  obtain ⟨h1, h2⟩ := Bool.and_eq_true_iff.mp e
  obtain ⟨h3, h4⟩ := Bool.and_eq_true_iff.mp h2
  split at h4
  ·rename_i t d sl el
   obtain ⟨h5, h6⟩ := Bool.and_eq_true_iff.mp h4
   obtain rfl : t = "module" := beq_iff_eq.mp h5
   obtain rfl : d = builtinsNs := Nat.eq_of_beq_eq_true h6
   refine ⟨bm, _, PySem.W.mg_of X G eb, ?_, ?_, X' _ _ el, rfl, rfl, rfl⟩
   ·intro z; rw [z, Nat.beq_refl] at h1; cases h1
   ·intro z; rw [z, Nat.beq_refl] at h3; cases h3
  ·cases h4
 ·cases e
def U2 (K : PySem.W.Frag) (x : Str) (T : Addr) : Bool := match PySem.W.nsIn K mainGlobals x with
 | some (some (.ref f)) => match K.lookup f with
  | some ⟨_, _, .func fd, _⟩ => match fd.code with
   | .ref c => RN K c T && WM K
   | _ => false
  | _ => false
 | _ => false
theorem Sh {K : PySem.W.Frag} {h : Heap} {mg : Str → Option Value} {x : Str} {st : Stmt} {T f : Addr} {fd : FuncData} {ps : List Str} (X : K.In h) (G : h.Ns mainGlobals mg) (D : L2.D K mg x st ps f fd) (e : U2 K x T = true) : ∃ c, N9 K mg fd.code c T ∧ ∀ h', K.In h' → isCodeTable h' T := by
 unfold U2 at e
 split at e
 ·rename_i f' ef
  have e1 := PySem.W.mg_of X G ef
  rw [D.m] at e1; cases e1
  obtain ⟨oc, od, kV, doc, pm, an, cdv, ct, osl, rfl, lk, hcd⟩ := D.F.ex
  rw [lk] at e
  dsimp only at e
  cases cdv with
  | ref c =>
   obtain ⟨h1, h2⟩ := Bool.and_eq_true_iff.mp e
   exact ⟨c, ⟨rfl, fun h' X' => (OX h1 h' X').1, fun h' X' => SR X G h2 h' X'⟩, fun h' X' => (OX h1 h' X').2⟩
  | _ => cases e
 ·cases e
theorem RY {as : List Addr} {h : Heap} {T : Addr} (n : T ∉ as) : (TG.Kof as h).lookup T = none := by
 induction as with
 | nil => rfl
 | cons b r ih =>
  simp only [TG.Kof, List.filterMap_cons]
  have nb : T ≠ b := fun z => n (by rw [z]; exact List.mem_cons_self)
  cases hb : h.get? b with
  | none => exact ih fun z => n (List.mem_cons_of_mem _ z)
  | some ob =>
   simp only [Option.map_some, List.lookup, beq_eq_false_iff_ne.mpr nb]
   exact ih fun z => n (List.mem_cons_of_mem _ z)
def Ht {β : Type} (T : Addr) (as : List Addr) (obs : PySem.W.Frag → β) (v : β) (_ : World) (h : Heap) : Prop := ∃ K : PySem.W.Frag, K.In h ∧ K.lookup T = none ∧ h.get? T = some (PySem.W.tabObj #[]) ∧ obs K = v
theorem Ht.of {β : Type} {T : Addr} {as : List Addr} {obs : PySem.W.Frag → β} {v : β} (n : T ∉ as) (w : World) (s : Shared) (e : (Fq (s.heap.get? T), obs (TG.Kof as s.heap)) = (true, v)) : Ht T as obs v w s.heap :=
 ⟨_, TG.VU _ _, RY n, Rf (Prod.mk.inj e).1, (Prod.mk.inj e).2⟩
theorem Ht.keeps {β : Type} {T : Addr} {as : List Addr} {obs : PySem.W.Frag → β} {v : β} (w : World) (h h' : Heap) (x : Ht T as obs v w h) (k : ∀ b o, h.get? b = some o → h'.get? b = some o) : Ht T as obs v w h' := x.imp fun _ z => ⟨z.1.keeps k, z.2.1, k _ _ z.2.2.1, z.2.2.2⟩
theorem SJ {β : Type} {T : Addr} {as : List Addr} {obs : PySem.W.Frag → β} (s : SharedT) : (Fq (s.abs.heap.get? T), obs (TG.Kof as s.abs.heap)) = (Fq (TG.O8 s.tree s.n T), obs (TG.Qf as s)) := by
 rw [TG.Sy]
 show (Fq ((absHeap s.tree s.n s.life).get? T), _) = _
 rw [TG.Pr]
theorem RF {l : PySem.W.OpenLaw} {n k : Nat} {q : Program} {loose : List Str} {XP : (Str → Option Value) → Heap → Prop} {β : Type} {T : Addr} {as : List Addr} {obs : PySem.W.Frag → β} {v : β} {d : DefRec} {CX : CXT} {sp : PySem.W.Frag → Sp} {x : Str}
  (hn : l.most = some n) (hn2 : n ≤ sizeLine) (hdf : d.params.defaults = []) (hr : Bz k callerA)
  (F : ∀ (w : World) (mg : Str → Option Value) (fa : Addr) (h : Heap) (K : PySem.W.Frag), obs K = v → K.In h → h.Ns mainGlobals mg → mg d.name = some (.ref fa) →
   ∃ fd : FuncData, (∀ (s : Shared) (u : Value), BindsTo s fd ⟨[u], []⟩ [(x, u)]) ∧ (∀ h', K.In h' → isCodeTable h' T) ∧
    ∀ base : Heap, K.In base → base.Ns mainGlobals mg → Ah l.prog w K mg base CX k fa fd [x] (sp K))
  (hsp : ∀ (K : PySem.W.Frag) (H : Hp) (a : Addr) (ns : List Int), ns.length ≤ n → RW T H → SqL K H a (ns.map V.int) → sp K [.ref a] H (fun v _ => v = .bl true) fun _ _ _ => False)
  (hCX : ∀ (H : Hp) (s : Shared) (e : Value) (s' : Shared), CX [] H s (fun _ _ _ => False) e s' → False) :
  PySem.W.WalkO q loose XP (Ht T as obs v) l.row.toRowW d [] (fun f vs => PySem.call f vs) := by
 refine Att.attach_call hn hdf fun w s₀ s₁ mg mb fa o pm cd doc a vs ns G Y ho hd hcd hmg hobj hints hlen hg => ?_
 obtain ⟨K, KX, KT, hT, KO⟩ := Y
 obtain ⟨fd, hb, isT, hF⟩ := F w mg fa _ K KO KX G.T.g hmg
 exact QS KX hT (isT _ KX) KT G.T.g G.T.b G.T.builtins G.T.nolimit hg hobj hints (Nat.le_trans hlen hn2) hr hF hb (fun H hO hS => hsp K H a ns hlen hO hS) fun H e s' => hCX H s₁ e s'
end LM
namespace TG
open PySem L2
theorem Paired.at {α β : Type} {F : α → β → Prop} : ∀ {l : List α} {r : List β} {i : Nat} {x : α}, Paired F l r → l[i]? = some x → ∃ y, r[i]? = some y ∧ F x y
 | _, _, i, x, .nil, h => by simp at h
 | _, _, 0, x, .cons h1 _, h => by simp at h; subst h; exact ⟨_, rfl, h1⟩
 | _, _, i + 1, x, .cons _ t, h => by
  obtain ⟨y, h2, h3⟩ := Paired.at (i := i) (x := x) t (by simpa using h)
  exact ⟨y, by simpa using h2, h3⟩
theorem QB {β : Type} {K : PySem.W.Frag} {a : Addr} {as : List Addr} {bs : List β} {te : TE} {caps : St} {D : Addr} {H1 : Hp} {Q : Hp → Prop} (E : Hp → Addr → β → Prop) (es : ∀ H H' v b, AH H H' → E H v b → E H' v b)
  (F : Hp → V → Addr → β → Prop) (fs : ∀ H H' v q b, AH H H' → F H v q b → F H' v q b) (fd : ∀ H v q b xs ys, H D = some (.lst xs) → H1 D = none → F H v q b → F (L2.upd H D (.lst ys)) v q b)
  (hl : SqL K H1 a (as.map V.ref)) (pr0 : Paired (E H1) as bs) (hD : H1 D = none) (hz : as.length ≤ 1000)
  (he : ∀ q b H (R : VK), b ∈ bs → AH H1 H → (H D ≠ none) → E H q b → (∀ y H', AH H H' → F H' y q b → R y H') → te (some (.ref q) :: caps) H R)
  (hd : ∀ H ys, AH H1 H → H D = some (.lst ys) → ys.length = as.length → (∀ (i : Nat) (y : V), ys[i]? = some y → ∃ q b, as[i]? = some q ∧ bs[i]? = some b ∧ F H y q b) → Q H) : HH te Gc caps (Itl K a) D H1 Q := by
 refine Mq (xs := as.map V.ref) (fun i ys H => AH H1 H ∧ H D = some (.lst ys) ∧ ∀ (j : Nat) (y : V), ys[j]? = some y → ∃ q b, as[j]? = some q ∧ bs[j]? = some b ∧ F H y q b) ⟨Ax hD, AO, fun j y z => by simp at z⟩ (fun _ _ H _ ⟨s1, _⟩ => s1.seq hl) ?_ ?_
 ·rintro i x ys H hx hy ⟨s1, e1, pr⟩
  have hi : i < as.length := by
   have := (List.getElem?_eq_some_iff.mp hx).1
   rwa [List.length_map] at this
  have hq := List.getElem?_eq_getElem hi
  obtain ⟨b, hb, eb⟩ := Paired.at pr0 hq
  have ex : x = V.ref as[i] := by
   rw [List.getElem?_map, hq] at hx
   exact (Option.some.inj hx).symm
  subst ex
  refine he as[i] b H _ (List.mem_of_getElem? hb) s1 (by rw [e1]; simp) (es _ _ _ _ s1 eb) fun y H' s2 fy => ?_
  refine OW.of (by rw [List.length_map, PySem.sizeLine_eq]; omega) (by rw [List.length_map]; exact hi) hy (s2.get e1) ⟨(s1.trans s2).updFresh hD, AO, fun j z hz' => ?_⟩
  by_cases hj : j < ys.length
  ·rw [List.getElem?_append_left hj] at hz'
   obtain ⟨q, b', h1, h2, h3⟩ := pr j z hz'
   exact ⟨q, b', h1, h2, fd _ _ _ _ _ _ (s2.get e1) hD (fs _ _ _ _ _ s2 h3)⟩
  ·have hj2 : j = ys.length := by
    have := (List.getElem?_eq_some_iff.mp hz').1
    rw [List.length_append] at this
    simp at this
    omega
   subst hj2
   rw [List.getElem?_append_right (Nat.le_refl _), Nat.sub_self] at hz'
   cases hz'
   rw [hy]
   exact ⟨_, b, hq, hb, fd _ _ _ _ _ _ (s2.get e1) hD fy⟩
 ·rintro ys H hy ⟨s1, e1, pr⟩
  exact hd H ys s1 e1 (by rw [hy, List.length_map]) pr
theorem DN {H H' : Hp} {P : Addr} {pos : Pos} {qual : Str} (h : LM.Tbl H P pos qual) (s : AH H H') : LM.Tbl H' P pos qual := by
 rcases h with h | ⟨c, o, u, vs, t, h1, h2, h3⟩
 ·exact .inl (s.get h)
 ·exact .inr ⟨c, o, u, vs, t, s.get h1, s.get h2, h3⟩
def Bn (T : Addr) (H H' : Hp) : Prop := ∀ b u, b ≠ T → H b = some u → H' b = some u
theorem Bn.get {T b : Addr} {H H' : Hp} {u : HO} {pos : Pos} {qual : Str} (s : Bn T H H') (tb : LM.Tbl H T pos qual) (e : H b = some u) (n : ∀ ps, u ≠ .tbl ps) : H' b = some u := s b u (fun z => by
 obtain ⟨ps, h⟩ := tb.tab
 rw [z, h] at e
 exact n ps (Option.some.inj e).symm) e
theorem Bn.gs {T : Addr} {H H' : Hp} {pos : Pos} {qual : Str} {as : List Addr} {gs : List G} (s : Bn T H H') (tb : LM.Tbl H T pos qual) (g : Ab H as gs) : Ab H' as gs := Paired.mapP g fun _ _ e => s.get tb e fun _ z => by cases z
theorem Bn.of {T : Addr} {H H' : Hp} (s : AH H H') : Bn T H H' := fun _ _ _ e => s.get e
theorem Bn.trans {T : Addr} {H H1 H2 : Hp} (a : Bn T H H1) (b : Bn T H1 H2) : Bn T H H2 := fun c u n e => b c u n (a c u n e)
theorem Bch.sameT {C T : Addr} {H H' : Hp} {b S P : Addr} {ow : List Addr} {gs : List G} {past : List (List G)} {pos : Pos} {qual : Str} (h : Bch C H b S P ow gs past) (s : Bn T H H') (tb : LM.Tbl H T pos qual) : Bch C H' b S P ow gs past :=
 h.keep fun a u ha e => by
  rcases ha with z | z | ⟨xs, z⟩
  ·obtain ⟨dx, eb⟩ := h.at_
   rw [z, eb] at e
   cases e
   rw [z]
   exact s.get tb eb fun _ z => by cases z
  ·obtain ⟨xs, ea⟩ := h.lv a z
   rw [ea] at e
   cases e
   exact s.get tb ea fun _ z => by cases z
  ·rw [z] at e ⊢
   exact s.get tb e fun _ z => by cases z
theorem R7 {ow ow' : List Addr} {H H' : Hp} {P : Addr} {pos : Pos} {qual : Str} (h : LM.Tbl H P pos qual) (k : Kept ow H H' ow') : LM.Tbl H' P pos qual := by
 rcases h with h | ⟨c, o, u, vs, t, h1, h2, h3⟩
 ·exact .inl (k.tbl _ _ h)
 ·exact .inr ⟨c, o, u, vs, t, k.tbl _ _ h1, k.frz _ _ _ h2, h3⟩
end TG
set_option Elab.async false
set_option linter.all false
set_option maxRecDepth 100000
set_option maxHeartbeats 4000000
namespace L2
open PySem PySem.Spec PyProof.Rows
section
variable {X : Cx}
end
end L2
namespace TG
open PySem L2
section
variable {T : Addr} {H H' : Hp} {pos : Pos} {qual : Str}
end
end TG
namespace TG
open PySem L2
end TG
namespace L2
end L2
namespace L2
open PySem PySem.Spec PyProof.Rows
section
variable {X : Cx} {CX : CXT} {k n : Nat} {f C : Addr} {fd : FuncData} {ps N : List Str} {sp : Sp} {E : XK} {x : Str} {p pos apos : Pos} {e : Expr} {es : List Expr} {t : TA} {st : Stmt} {a b : Expr} {ta tb te : TE} {r : R2}
theorem pcl (d : D X.K X.mg x st ps f fd) (F : Ah X.prog X.w X.K X.mg X.base CX k f fd ps sp) (hr : Bz n X.A) (hx : Dv CX X E) (ha : PA X (e :: es) t) (hk : k ≤ n := by decide) (hg : Gl X x := by rfl) (hdb : (x == ("__debug__" : Str)) = false := by decide)
  (he : starEach (e :: es) X.env = (false, eval e X.env) :: starEach es X.env := by rfl) (hpl : (backTo pos (starEach es X.env)).any (·.1) = false := by rfl) : PE X (.Call (.Name x p) (e :: es) [] pos) (Fe sp [] E t) := Se F (hr.mono hk) hg d.m d.F.kp d.b .nil hx ha hdb he hpl
theorem pst (i : Nat) {sc : Scope} {pos' : Pos} (S : AN X.N ps sc) (he : PE X e te) (hi : X.N[i]? = some x := by rfl) (hx : Loc X.env.scope x := by first | exact Or.inl rfl | exact Or.inr rfl) (hs : swapsWith e (some (.Name x pos')) pos.line X.env = pure false := by rfl)
  (hf : X.fn x = true ∨ X.env.scope.names.lookup x = some .local := by first | exact .inl rfl | exact .inr rfl | assumption) : PS X (.Assign [.Name x pos'] e pos) (Lz te (EO i)) := Tn S.nd hi hx he hs hf
theorem pgn (i : Nat) {sc : Scope} (S : AN X.N ps sc) (hi : X.N[i]? = some x := by rfl) (hx : Loc X.env.scope x := by first | exact Or.inl rfl | exact Or.inr rfl) (hf : X.fn x = true ∨ X.env.scope.names.lookup x = some .local := by first | exact .inl rfl | exact .inr rfl | assumption) : PG X (.Name x pos) (EO i) := Pg S.nd hi hx hf
theorem pxi (hr : IxR X r) (ha : PE X a ta) (hb : PE X b tb) (hs : Pb b := by exact fun _ _ => rfl) : PE X (.Subscript a b pos) (tOp r ta tb) := pe_ix hr ha hb hs
theorem pec {op : CmpOp} (ho : OpR X (compareOp op) r) (ha : PE X a ta) (hb : PE X b tb) (hm : behindInMarks op b = false := by exact Rb _) : PE X (.Compare a [op] [b] pos) (tOp r ta tb) := QA ho ha hb hm
theorem ptc {op : CmpOp} (ho : OpR X (compareOp op) r) (ha : PE X a ta) (hb : PE X b tb) (hm : behindInMarks op b = false := by exact Rb _) : PT X (.Compare a [op] [b] pos) (Ff (tOp r ta tb)) := S7 ho ha hb hm
end
end L2
set_option Elab.async false
set_option linter.all false
set_option maxRecDepth 100000
set_option maxHeartbeats 4000000
namespace TG
open PySem L2
theorem K8 {a b a' b' : Int} (b0 : 0 < b) (b0' : 0 < b') (g : Int.gcd a b = 1) (g' : Int.gcd a' b' = 1) (e : a * b' = a' * b) : a = a' ∧ b = b' := by
 have d1 : b ∣ b' := by
  have h : b ∣ a * b' := ⟨a', by rw [e, Int.mul_comm]⟩
  have h2 : b.natAbs ∣ a.natAbs * b'.natAbs := by rw [← Int.natAbs_mul]; exact Int.natAbs_dvd_natAbs.mpr h
  have c : Nat.Coprime b.natAbs a.natAbs := by
   have : Int.gcd b a = 1 := by rw [Int.gcd_comm]; exact g
   exact this
  exact Int.natAbs_dvd_natAbs.mp (Nat.Coprime.dvd_of_dvd_mul_left c h2)
 have d2 : b' ∣ b := by
  have h : b' ∣ a' * b := ⟨a, by rw [← e, Int.mul_comm]⟩
  have h2 : b'.natAbs ∣ a'.natAbs * b.natAbs := by rw [← Int.natAbs_mul]; exact Int.natAbs_dvd_natAbs.mpr h
  have c : Nat.Coprime b'.natAbs a'.natAbs := by
   have : Int.gcd b' a' = 1 := by rw [Int.gcd_comm]; exact g'
   exact this
  exact Int.natAbs_dvd_natAbs.mp (Nat.Coprime.dvd_of_dvd_mul_left c h2)
 have eb : b = b' := Int.le_antisymm (Int.le_of_dvd b0' d1) (Int.le_of_dvd b0 d2)
 subst eb
 exact ⟨Int.eq_of_mul_eq_mul_right (by omega) e, rfl⟩
theorem P2 {t t' : Thr} {x : G} (ot : OkT t) (ot' : OkT t') (ec : t.c = t'.c) (ed : t.d = t'.d) (tx : t.gap x.p x.f = 0) (px : t'.pas x) : t.a * t'.b ≤ t'.a * t.b := by
 have b0 := ot.b0
 have b0' := ot'.b0
 have d0 := ot.d0
 obtain ⟨h, _⟩ := px
 rw [← ec, ← ed] at h
 have h2 := Int.mul_le_mul_of_nonneg_left h (Int.le_of_lt b0)
 have e : t.a * t.d + t.c * x.p * t.b = x.f * t.b * t.d := by
  have : t.gap x.p x.f = t.a * t.d + t.c * x.p * t.b - x.f * t.b * t.d := rfl
  omega
 have e2 : t.d * (t.a * t'.b) = t.b * (x.f * (t'.b * t.d)) - t.b * (x.p * t.c * t'.b) := by
  have : t'.b * (t.a * t.d + t.c * x.p * t.b) = t'.b * (x.f * t.b * t.d) := by rw [e]
  grind
 have e3 : t.d * (t'.a * t.b) = t.b * (t'.a * t.d + x.p * t.c * t'.b) - t.b * (x.p * t.c * t'.b) := by grind
 have : t.d * (t.a * t'.b) ≤ t.d * (t'.a * t.b) := by rw [e2, e3]; omega
 exact Int.le_of_mul_le_mul_left this d0
theorem MS {t t' : Thr} {x y x' y' : G} (ot : OkT t) (ot' : OkT t') (lt : x.p < y.p) (tx : t.gap x.p x.f = 0) (ty : t.gap y.p y.h = 0) (lt' : x'.p < y'.p) (tx' : t'.gap x'.p x'.f = 0) (ty' : t'.gap y'.p y'.h = 0)
  (px : t'.pas x) (py : t'.pas y) (px' : t.pas x') (py' : t.pas y') : t = t' := by
 have h1 := K6 ot ot' lt tx ty px py
 have h2 := K6 ot' ot lt' tx' ty' px' py'
 have e : t.c * t'.d = t'.c * t.d := by omega
 obtain ⟨ec, ed⟩ := K8 ot.d0 ot'.d0 ot.g2 ot'.g2 e
 have h3 := P2 ot ot' ec ed tx px
 have h4 := P2 ot' ot ec.symm ed.symm tx' px'
 have e2 : t.a * t'.b = t'.a * t.b := by omega
 obtain ⟨ea, eb⟩ := K8 ot.b0 ot'.b0 ot.g1 ot'.g1 e2
 cases t
 cases t'
 simp only at ea eb ec ed
 subst ea eb ec ed
 rfl
theorem Nw {t : Thr} {x y x' y' : G} (ot : OkT t) (tx : t.gap x.p x.f = 0) (ty : t.gap y.p y.h = 0) (tx' : t.gap x'.p x'.f = 0) (ty' : t.gap y'.p y'.h = 0) : LeR x' y' x y := by
 have b0 := ot.b0
 have d0 := ot.d0
 have r : ∀ {u v : G}, t.gap u.p u.f = 0 → t.gap v.p v.h = 0 → (v.h - u.f) * t.d = t.c * (v.p - u.p) := fun {u v} hu hv => by
  have e1 : t.gap u.p u.f = t.a * t.d + t.c * u.p * t.b - u.f * t.b * t.d := rfl
  have e2 : t.gap v.p v.h = t.a * t.d + t.c * v.p * t.b - v.h * t.b * t.d := rfl
  have : t.b * ((v.h - u.f) * t.d) = t.b * (t.c * (v.p - u.p)) := by grind
  exact Int.eq_of_mul_eq_mul_left (by omega) this
 have h1 := r tx ty
 have h2 := r tx' ty'
 unfold LeR
 have : t.d * ((y'.h - x'.f) * (y.p - x.p)) = t.d * ((y.h - x.f) * (y'.p - x'.p)) := by grind
 exact Int.le_of_eq (Int.eq_of_mul_eq_mul_left (by omega) this)
end TG
namespace L2
open PySem
inductive Tr where
 | i (n : Int)
 | s (x : Str)
 | l (xs : List Tr)
 | t (xs : List Tr)
mutual
def Enc (H : Hp) : Tr → V → Prop
 | .i n, v => v = .int n
 | .s x, v => v = .str x
 | .l xs, v => ∃ p vs, v = .ref p ∧ H p = some (.lst vs) ∧ BG H xs vs
 | .t xs, v => ∃ p vs, v = .ref p ∧ H p = some (.tup vs) ∧ BG H xs vs
def BG (H : Hp) : List Tr → List V → Prop
 | [], vs => vs = []
 | x :: xs, vs => ∃ v r, vs = v :: r ∧ Enc H x v ∧ BG H xs r
end
mutual
theorem Enc.same {H H' : Hp} (s : AH H H') : ∀ {x : Tr} {v : V}, Enc H x v → Enc H' x v
 | .i _, _, h => h
 | .s _, _, h => h
 | .l _, _, ⟨p, vs, e, h, r⟩ => ⟨p, vs, e, s.get h, BG.same s r⟩
 | .t _, _, ⟨p, vs, e, h, r⟩ => ⟨p, vs, e, s.get h, BG.same s r⟩
theorem BG.same {H H' : Hp} (s : AH H H') : ∀ {xs : List Tr} {vs : List V}, BG H xs vs → BG H' xs vs
 | [], _, h => h
 | _ :: _, _, ⟨v, r, e, h1, h2⟩ => ⟨v, r, e, Enc.same s h1, BG.same s h2⟩
end
theorem BG.len {H : Hp} : ∀ {xs : List Tr} {vs : List V}, BG H xs vs → vs.length = xs.length
 | [], _, h => by rw [h]; rfl
 | _ :: _, _, ⟨v, r, e, _, h⟩ => by rw [e, List.length_cons, List.length_cons, BG.len h]
theorem BG.get {H : Hp} : ∀ {xs : List Tr} {vs : List V} {i : Nat} {x : Tr}, BG H xs vs → xs[i]? = some x → ∃ v, vs[i]? = some v ∧ Enc H x v
 | [], _, _, _, _, h => by simp at h
 | _ :: _, _, 0, _, ⟨v, r, e, h1, _⟩, h => by cases h; exact ⟨v, by rw [e]; rfl, h1⟩
 | _ :: _, _, i + 1, _, ⟨v, r, e, _, h2⟩, h => by
  obtain ⟨u, h3, h4⟩ := BG.get h2 (i := i) h
  exact ⟨u, by rw [e]; exact h3, h4⟩
mutual
def Tr.ok : Nat → Tr → Prop
 | _, .i _ => True
 | _, .s _ => True
 | n, .l xs => ∃ m, n = m + 1 ∧ xs.length ≤ 1000 ∧ Tr.okL m xs
 | n, .t xs => ∃ m, n = m + 1 ∧ xs.length ≤ 1000 ∧ Tr.okL m xs
def Tr.okL : Nat → List Tr → Prop
 | _, [] => True
 | m, x :: xs => Tr.ok m x ∧ Tr.okL m xs
end
theorem okL_mem {m : Nat} : ∀ {xs : List Tr} {k : Nat} {x : Tr}, Tr.okL m xs → xs[k]? = some x → Tr.ok m x
 | [], _, _, _, h => by simp at h
 | _ :: _, 0, _, h, e => by cases e; exact h.1
 | _ :: _, k + 1, _, h, e => okL_mem (k := k) h.2 e
open PySem.Spec PyProof.Rows
section
variable {X : Cx}
def rIsT (K : PySem.W.Frag) : List V → Hp → VK → Prop := fun xs H Q => ∃ (x : V) (p : Addr) (t : Value) (ts : List String) (b : Bool), xs = [x, .ref p] ∧ H p = some (.tup (ts.map V.ty)) ∧ CJ K H x t ∧ PySem.W.kitAny K t (ts.map Value.type) = some b ∧ Q (.bl b) H
theorem vals_ty : ∀ {ts : List String} {us : List Value}, Ag (ts.map V.ty) us → us = ts.map Value.type
 | [], _, h => by cases h; rfl
 | _ :: _, _, .cons r h => by
  cases (show _ = Value.type _ from r)
  rw [vals_ty h]; rfl
theorem call_isT : CB X (.builtin "isinstance") (rIsT X.K) := by
 intro pins s σ H xs us Q I r h
 obtain ⟨x, p, t, ts, b, rfl, hp, ty, e, q⟩ := h
 obtain ⟨u, w', rfl, r1, r2⟩ := vals2 r
 cases (show w' = Value.ref p from r2)
 obtain ⟨_, its, rv, o, ho, hc, n, hd⟩ := (show As X.prog X.w H s.heap p (.tup (ts.map V.ty)) from I.hok p _ hp)
 have ei := vals_ty rv
 subst ei
 obtain ⟨oc, od, odt, osl⟩ := o
 simp only at hc hd
 subst hc hd
 have fin : ∀ tk, (EP X pins σ Q) (.bool b) { s with toks := tk } := fun tk => ⟨.bl b, H, I.tok tk, rfl, q⟩
 cases ty with
 | non => cases (show u = Value.none from r1); exact PySem.W.kia_tup PySem.W.kitx_none I.kIn True.intro ho e (fun z => nomatch z) fin
 | bl y => cases (show u = Value.bool y from r1); exact PySem.W.kia_tup PySem.W.kitx_bool I.kIn True.intro ho e (fun z => nomatch z) fin
 | int i => obtain ⟨t, q⟩ := (show ∃ t, u = Value.int i t from r1); cases q; exact PySem.W.kia_tup PySem.W.kitx_int I.kIn True.intro ho e (fun z => nomatch z) fin
 | str y => obtain ⟨t, q⟩ := (show ∃ t, u = Value.str y t from r1); cases q; exact PySem.W.kia_tup PySem.W.kitx_str I.kIn True.intro ho e (fun z => nomatch z) fin
 | @lst a xs ea =>
  cases (show u = Value.ref a from r1)
  obtain ⟨_, _, n, _, h1⟩ := (show As X.prog X.w H s.heap a (.lst xs) from I.hok a _ ea)
  exact PySem.W.kia_tup PySem.W.kitx_list I.kIn ⟨_, h1, rfl⟩ ho e (fun z => nomatch z) fin
 | @tup a xs ea =>
  cases (show u = Value.ref a from r1)
  obtain ⟨_, _, _, h1⟩ := (show As X.prog X.w H s.heap a (.tup xs) from I.hok a _ ea)
  obtain ⟨o2, ho2, hc2, n2, hd2⟩ := h1
  exact PySem.W.kia_tup PySem.W.kitx_tuple I.kIn ⟨_, ho2, hc2⟩ ho e (fun z => nomatch z) fin
 | flt y => obtain ⟨t, q⟩ := (show ∃ t, u = Value.float y t from r1); cases q; exact PySem.W.kia_tup PySem.W.kitx_float I.kIn True.intro ho e (fun z => nomatch z) fin
 | @frz a ob xs ea =>
  cases (show u = Value.ref a from r1)
  obtain ⟨_, _, _, n, _, h1⟩ := (show As X.prog X.w H s.heap a (.frz ob (.lst xs)) from I.hok a _ ea)
  exact PySem.W.kia_tup PySem.W.kitx_list I.kIn ⟨_, h1, rfl⟩ ho e (fun z => nomatch z) fin
 | @dK a kvs ea =>
  cases (show u = Value.ref a from r1)
  obtain ⟨_, _, vs, _, p⟩ := (show As X.prog X.w H s.heap a (.dK kvs) from I.hok a _ ea)
  obtain ⟨o, es, ep, h1, h2, _⟩ := p
  exact PySem.W.kia_tup PySem.W.kitx_dict I.kIn ⟨o, h1, h2.1⟩ ho e (fun z => nomatch z) fin
 | @dT a kvs ea =>
  cases (show u = Value.ref a from r1)
  obtain ⟨_, _, xs, _, o, es, ep, h1, h2, _⟩ := (show As X.prog X.w H s.heap a (.dT kvs) from I.hok a _ ea)
  exact PySem.W.kia_tup PySem.W.kitx_dict I.kIn ⟨o, h1, h2.1⟩ ho e (fun z => nomatch z) fin
 | @ins a C dx fs ea cl ha hn htk hm =>
  cases (show u = Value.ref a from r1)
  obtain ⟨mA, O, _⟩ := Hy I.hok ea
  obtain ⟨od, J, _⟩ := O.look
  exact PySem.W.kia_tup (PySem.W.kitx_own (cl.get _) cl.hd ha hn htk hm) I.kIn J ho e (fun z => nomatch z) fin
end
end L2
namespace L2
open PySem PySem.Spec PyProof.Rows
section
variable {X : Cx}
theorem TV {r1 r2 : R2} (h1 : IxR X r1) (h2 : IxR X r2) : IxR X (fun x y H Q => r1 x y H Q ∨ r2 x y H Q) := by
 intro value slice pins s σ H x y v u Q I rx ry h hs
 rcases h with h | h
 ·exact h1 value slice pins s σ H x y v u Q I rx ry h hs
 ·exact h2 value slice pins s σ H x y v u Q I rx ry h hs
end
end L2
set_option Elab.async false
set_option linter.all false
set_option maxRecDepth 100000
set_option maxHeartbeats 4000000
namespace TG
open PySem L2
def NP (gs : List G) (x y : G) : Prop := ∀ x' ∈ gs, ∀ y' ∈ gs, x'.p < y'.p → LeR x' y' x y → (x.p < x'.p ∨ (x.p = x'.p ∧ y.p ≤ y'.p))
def Own (gs : List G) (t : Thr) : Prop := (∀ g, gs = [g] → t = ⟨g.f, 1, 0, 1⟩) ∧ (2 ≤ gs.length → OkT t ∧ (∀ g ∈ gs, t.pas g) ∧ ∃ x ∈ gs, ∃ y ∈ gs, x.p < y.p ∧ t.gap x.p x.f = 0 ∧ t.gap y.p y.h = 0)
theorem Own.uniq {gs : List G} {t t' : Thr} (h : Own gs t) (h' : Own gs t') (ne : gs ≠ []) : t = t' := by
 match gs, ne, h, h' with
 | [g], _, h, h' => rw [h.1 g rfl, h'.1 g rfl]
 | a :: b :: r, _, h, h' =>
  obtain ⟨o1, al1, x, hx, y, hy, lt, tx, ty⟩ := h.2 (by simp)
  obtain ⟨o2, al2, x', hx', y', hy', lt', tx', ty'⟩ := h'.2 (by simp)
  exact MS o1 o2 lt tx ty lt' tx' ty' (al2 x hx) (al2 y hy) (al1 x' hx') (al1 y' hy')
structure Edg (sg : List G) (t : Thr) (p q : Int) : Prop where
 ok : OkT t
 all : ∀ g ∈ sg, t.pas g
 at_ : ∃ x ∈ sg, ∃ y ∈ sg, x.p < y.p ∧ t.gap x.p x.f = 0 ∧ t.gap y.p y.h = 0 ∧ NP sg x y ∧ p = x.p ∧ q = y.p
theorem Edg.uniq {sg : List G} {t t' : Thr} {p q p' q' : Int} (h : Edg sg t p q) (h' : Edg sg t' p' q') : t = t' ∧ p = p' ∧ q = q' := by
 obtain ⟨o1, al1, x, hx, y, hy, lt, tx, ty, fp, rfl, rfl⟩ := h
 obtain ⟨o2, al2, x', hx', y', hy', lt', tx', ty', fp', rfl, rfl⟩ := h'
 cases MS o1 o2 lt tx ty lt' tx' ty' (al2 x hx) (al2 y hy) (al1 x' hx') (al1 y' hy')
 have z1 := fp x' hx' y' hy' lt' (Nw o1 tx ty tx' ty')
 have z2 := fp' x hx y hy lt (Nw o1 tx' ty' tx ty)
 exact ⟨rfl, by omega, by omega⟩
abbrev trT (t : Thr) : Tr := .t [.i t.a, .i t.b, .i t.c, .i t.d]
abbrev trB (t : List Int) : Tr := .t [.s "bar", .t (t.map Tr.i)]
inductive KI (sg : List G) (x : Tr) : Prop where
 | throw (t : Thr) (ok : OkT t) (all : ∀ g ∈ sg, t.pas g) (ow : Own sg t) (e : x = .t [.s "throw", trT t])
 | bar (t : List Int) (ne : t ≠ []) (f : BX sg t) (e : x = trB t)
theorem KI.uniq {sg : List G} {x y : Tr} (ne : sg ≠ []) (h : KI sg x) (h' : KI sg y) : x = y := by
 rcases h with ⟨t, ok, all, ow, rfl⟩ | ⟨t, n1, f, rfl⟩ <;> rcases h' with ⟨t', ok', all', ow', rfl⟩ | ⟨t', n1', f', rfl⟩
 ·rw [ow.uniq ow' ne]
 ·exact absurd (Dn ok all f') n1'
 ·exact absurd (Dn ok' all' f) n1
 ·rw [f.uniq f']
inductive He (f : Thr → Thr) (sg hg : List G) (x : Tr) : Prop where
 | throw (t : Thr) (p q : Int) (ok : OkT (f t)) (all : ∀ g ∈ sg, (f t).pas g) (ed : Edg hg t p q) (e : x = .t [.s "throw", trT (f t), .i p, .i q])
 | bar (t : List Int) (ne : t ≠ []) (f : BX sg t) (e : x = trB t)
theorem He.uniq {f : Thr → Thr} {sg hg : List G} {x y : Tr} (h : He f sg hg x) (h' : He f sg hg y) : x = y := by
 rcases h with ⟨t, p, q, ok, all, ed, rfl⟩ | ⟨t, n1, f, rfl⟩ <;> rcases h' with ⟨t', p', q', ok', all', ed', rfl⟩ | ⟨t', n1', f', rfl⟩
 ·obtain ⟨e1, e2, e3⟩ := ed.uniq ed'
  rw [e1, e2, e3]
 ·exact absurd (Dn ok all f') n1'
 ·exact absurd (Dn ok' all' f) n1
 ·rw [f.uniq f']
abbrev trR (r : Run) : Tr := .t [.i r.g.p, .i r.last.p, trT r.t]
abbrev Nv (rs : List Run) : Prop := ∀ r ∈ rs, Own r.all r.t
structure PU (sg : List G) (x : Tr) : Prop where
 at_ : ∃ rs : List Run, x = .l (rs.map trR) ∧ rs.flatMap Run.all = sg ∧ Far rs ∧ Nv rs ∧ ∀ r ∈ rs, OkT r.t ∧ ∀ g ∈ r.all, r.t.pas g
theorem MM {t : Thr} {gs : List G} (ha : Asc gs) (ot : OkT t) (all : ∀ g ∈ gs, t.pas g) : BK gs := fun i j k hb => by
 obtain ⟨h1, h2, a, b, c, e1, e2, e3, hb⟩ := hb
 have l1 := BQ ha e1 e2 h1
 have l2 := BQ ha e2 e3 h2
 have p1 := DU.mp (all a (List.mem_of_getElem? e1))
 have p2 := DU.mp (all b (List.mem_of_getElem? e2))
 have p3 := DU.mp (all c (List.mem_of_getElem? e3))
 exact F7 l1 l2 (Int.mul_pos ot.b0 ot.d0) hb p1 p2 p3
theorem Asc.left {xs ys : List G} (h : Asc (xs ++ ys)) : Asc xs := (List.pairwise_append.mp h).1
theorem BK.prefix {x y : List G} (h : BK (x ++ y)) : BK x := BK.infix (x := []) (z := y) h
theorem Nm {r r' : Run} {rest : List Run} {u : List G} (far : Far (r :: rest)) (e : r.all ++ rest.flatMap Run.all = r'.all ++ u) (nb : BK r'.all) : r'.all.length ≤ r.all.length := by
 apply Classical.byContradiction
 intro hl
 match rest, far, e with
 | [], _, e =>
  have := congrArg List.length e
  simp only [List.flatMap_nil, List.append_nil, List.length_append] at this
  omega
 | r2 :: rest, far, e =>
  have hf := far.1
  have e2 : r.all ++ [r2.g] ++ (r2.rest ++ rest.flatMap Run.all) = r'.all ++ u := by rw [← e, List.flatMap_cons]; simp
  have e3 : r'.all = r.all ++ [r2.g] ++ r'.all.drop (r.all ++ [r2.g]).length := by
   have l1 : (r.all ++ [r2.g]).length ≤ r'.all.length := by rw [List.length_append]; simp only [List.length_cons, List.length_nil] at hl ⊢; omega
   have t1 : r'.all.take (r.all ++ [r2.g]).length = r.all ++ [r2.g] := by
    have := congrArg (List.take (r.all ++ [r2.g]).length) e2
    rw [List.take_left, List.take_append_of_le_length l1] at this
    exact this.symm
   conv => lhs; rw [← List.take_append_drop (r.all ++ [r2.g]).length r'.all, t1]
  rw [e3] at nb
  exact hf (BK.prefix nb)
theorem Ml : ∀ {rs rs' : List Run}, Asc (rs.flatMap Run.all) → rs.flatMap Run.all = rs'.flatMap Run.all → Far rs → Far rs' → Nv rs → Nv rs' → (∀ r ∈ rs, OkT r.t ∧ ∀ g ∈ r.all, r.t.pas g) → (∀ r ∈ rs', OkT r.t ∧ ∀ g ∈ r.all, r.t.pas g) → rs = rs'
 | [], [], _, _, _, _, _, _, _, _ => rfl
 | [], r' :: rs', _, e, _, _, _, _, _, _ => by simp [Run.all] at e
 | r :: rs, [], _, e, _, _, _, _, _, _ => by simp [Run.all] at e
 | r :: rs, r' :: rs', ha, e, f, f', o, o', p, p' => by
  rw [List.flatMap_cons] at ha
  have ha' : Asc (r'.all ++ rs'.flatMap Run.all) := by rw [← List.flatMap_cons, ← e, List.flatMap_cons]; exact ha
  rw [List.flatMap_cons, List.flatMap_cons] at e
  obtain ⟨ot, al⟩ := p r List.mem_cons_self
  obtain ⟨ot', al'⟩ := p' r' List.mem_cons_self
  have n1 := MM (Asc.left ha) ot al
  have n2 := MM (Asc.left ha') ot' al'
  have l1 := Nm f e n2
  have l2 := Nm f' e.symm n1
  obtain ⟨e1, e2⟩ := List.append_inj e (by omega)
  have et : r.t = r'.t := (o r List.mem_cons_self).uniq (e1 ▸ o' r' List.mem_cons_self) (by simp [Run.all])
  have er : r = r' := by
   cases r; cases r'
   simp only [Run.all, List.cons.injEq] at e1
   obtain ⟨a, b⟩ := e1
   simp only at et
   subst a b et
   rfl
  have fr : ∀ {a : Run} {l : List Run}, Far (a :: l) → Far l := fun {a l} h => by
   cases l with
   | nil => trivial
   | cons _ _ => exact h.2
  rw [er, Ml (Asc.right ha) e2 (fr f) (fr f') (fun r hr => o r (List.mem_cons_of_mem _ hr)) (fun r hr => o' r (List.mem_cons_of_mem _ hr)) (fun r hr => p r (List.mem_cons_of_mem _ hr)) (fun r hr => p' r (List.mem_cons_of_mem _ hr))]
theorem PU.uniq {sg : List G} {x y : Tr} (ha : Asc sg) (h : PU sg x) (h' : PU sg y) : x = y := by
 obtain ⟨rs, rfl, e1, f1, o1, p1⟩ := h.at_
 obtain ⟨rs', rfl, e2, f2, o2, p2⟩ := h'.at_
 rw [Ml (by rw [e1]; exact ha) (by rw [e1, e2]) f1 f2 o1 o2 p1 p2]
theorem EG.uniq {t b x y x' y' : Int} (hb : b ≠ 0) (h : EG t b x y) (h' : EG t b x' y') : x = x' ∧ y = y' := by
 have e1 := h.eq
 have e2 := h'.eq
 refine K8 h.pos h'.pos h.one h'.one ?_
 have : b * (x * y') = b * (x' * y) := by
  have z1 : b * (x * y') = (b * x) * y' := by rw [Int.mul_assoc]
  have z2 : b * (x' * y) = (b * x') * y := by rw [Int.mul_assoc]
  rw [z1, z2, ← e1, ← e2, Int.mul_assoc, Int.mul_assoc, Int.mul_comm y y']
 exact Int.eq_of_mul_eq_mul_left hb this
def M6 (x y : G) (t : Thr) : Prop := EG (x.f * (y.p - x.p) - x.p * (y.h - x.f)) (y.p - x.p) t.a t.b ∧ EG (y.h - x.f) (y.p - x.p) t.c t.d
theorem M6.uniq {x y : G} {t t' : Thr} (lt : x.p < y.p) (h : M6 x y t) (h' : M6 x y t') : t = t' := by
 obtain ⟨e1, e2⟩ := h.1.uniq (by omega) h'.1
 obtain ⟨e3, e4⟩ := h.2.uniq (by omega) h'.2
 cases t; cases t'
 simp only at e1 e2 e3 e4
 subst e1 e2 e3 e4
 rfl
instance : Nonempty Thr := ⟨⟨0, 0, 0, 0⟩⟩
noncomputable def Pk (x y : G) : Thr := Classical.epsilon (M6 x y)
theorem R4 {x y : G} {t : Thr} (lt : x.p < y.p) (h : M6 x y t) : t = Pk x y := h.uniq lt (Classical.epsilon_spec ⟨t, h⟩)
noncomputable def Jx (gs : List G) (i j : Nat) : List Thr := (List.range i).flatMap (fun a => (gs.drop (a + 1)).map (Pk (gs.getD a ⟨0, 0, 0⟩))) ++ ((gs.drop (i + 1)).take j).map (Pk (gs.getD i ⟨0, 0, 0⟩))
theorem QJ (gs : List G) (i : Nat) : Jx gs i (gs.drop (i + 1)).length = Jx gs (i + 1) 0 := by
 unfold Jx
 rw [List.take_length, List.range_succ, List.flatMap_append, List.take_zero]
 simp
theorem Ov {gs : List G} {i j : Nat} {x y : G} (hx : gs[i]? = some x) (hy : gs[i + 1 + j]? = some y) : Jx gs i (j + 1) = Jx gs i j ++ [Pk x y] := by
 unfold Jx
 have hj : j < (gs.drop (i + 1)).length := by
  have := (List.getElem?_eq_some_iff.mp hy).1
  rw [List.length_drop]; omega
 have e : (gs.drop (i + 1))[j] = y := by
  have := List.getElem?_eq_getElem hj
  rw [List.getElem?_drop, hy] at this
  exact (Option.some.inj this).symm
 rw [List.take_succ_eq_append_getElem hj, e, List.map_append, ← List.append_assoc]
 have : gs.getD i ⟨0, 0, 0⟩ = x := by rw [List.getD_eq_getElem?_getD, hx]; rfl
 rw [this]; rfl
noncomputable def JU (gs : List G) : List Thr := ⟨(gs.getD 0 ⟨0, 0, 0⟩).f, 1, 0, 1⟩ :: Jx gs gs.length 0
structure RI (sg : List G) (x : Tr) : Prop where
 at_ : ∃ (i : Nat) (t : Thr), (JU sg)[i]? = some t ∧ (∀ (j : Nat) (t' : Thr), (JU sg)[j]? = some t' → JM sg t' ≤ JM sg t ∧ (j < i → JM sg t' < JM sg t)) ∧ x = .t [.l ((AU (sg.filter fun g => decide (t.pas g))).map Tr.i), trT t]
theorem RI.uniq {sg : List G} {x y : Tr} (h : RI sg x) (h' : RI sg y) : x = y := by
 obtain ⟨i, t, e, b, rfl⟩ := h.at_
 obtain ⟨i', t', e', b', rfl⟩ := h'.at_
 have z1 := b i' t' e'
 have z2 := b' i t e
 have : i = i' := by omega
 subst this
 rw [e] at e'
 cases e'
 rfl
theorem BG.ints (H : Hp) : ∀ xs : List Int, BG H (xs.map Tr.i) (xs.map V.int)
 | [] => rfl
 | _ :: xs => ⟨_, _, rfl, rfl, BG.ints H xs⟩
theorem Qi {H : Hp} {q : Addr} {t : Thr} (e : H q = some (.tup t.vs)) : Enc H (trT t) (.ref q) := ⟨q, _, rfl, e, BG.ints H [t.a, t.b, t.c, t.d]⟩
theorem WV {H : Hp} {D q : Addr} {t : List Int} (e : H D = some (.tup [.str "bar", .ref q])) (e2 : H q = some (.tup (t.map V.int))) : Enc H (trB t) (.ref D) := ⟨D, _, rfl, e, _, _, rfl, rfl, _, _, rfl, ⟨q, _, rfl, e2, BG.ints H t⟩, rfl⟩
theorem Ta {H : Hp} : ∀ {as : List Addr} {rs : List Run}, Paired (GE H) as rs → BG H (rs.map trR) (as.map V.ref)
 | _, _, .nil => rfl
 | _, _, .cons ⟨q, e1, e2, _, _⟩ t => ⟨_, _, rfl, ⟨_, _, rfl, e1, _, _, rfl, rfl, _, _, rfl, rfl, _, _, rfl, Qi e2, rfl⟩, Ta t⟩
theorem Paired.all {α β : Type} {F : α → β → Prop} {P : β → Prop} (hF : ∀ a b, F a b → P b) : ∀ {xs : List α} {ys : List β}, Paired F xs ys → ∀ y ∈ ys, P y
 | _, _, .nil, _, h => absurd h (by simp)
 | _, _, .cons f t, y, h => by
  rcases List.mem_cons.mp h with rfl | h
  ·exact hF _ _ f
  ·exact Paired.all hF t y h
theorem GM (m : Nat) : ∀ xs : List Int, Tr.okL m (xs.map Tr.i)
 | [] => trivial
 | _ :: xs => ⟨trivial, GM m xs⟩
theorem Sj (m : Nat) (t : Thr) : Tr.ok (m + 1) (trT t) := ⟨m, rfl, by simp, GM m [t.a, t.b, t.c, t.d]⟩
theorem Tb (m : Nat) {t : List Int} (h : t.length ≤ 1000) : Tr.ok (m + 2) (trB t) := ⟨m + 1, rfl, by simp, trivial, ⟨m, rfl, by rw [List.length_map]; exact h, GM m t⟩, trivial⟩
theorem KI.okd {sg : List G} {x : Tr} (h : KI sg x) (m : Nat) : Tr.ok (m + 2) x := by
 rcases h with ⟨t, ok, all, ow, rfl⟩ | ⟨t, n1, f, rfl⟩
 ·exact ⟨m + 1, rfl, by simp, trivial, Sj m t, trivial⟩
 ·exact Tb m (by rw [f.len3 n1]; decide)
theorem He.okd {f : Thr → Thr} {sg hg : List G} {x : Tr} (h : He f sg hg x) (m : Nat) : Tr.ok (m + 2) x := by
 rcases h with ⟨t, p, q, ok, all, ed, rfl⟩ | ⟨t, n1, f, rfl⟩
 ·exact ⟨m + 1, rfl, by simp, trivial, Sj m _, trivial, trivial, trivial⟩
 ·exact Tb m (by rw [f.len3 n1]; decide)
theorem NZ {α : Type} {m : Nat} {f : α → Tr} (h : ∀ a, Tr.ok m (f a)) : ∀ xs : List α, Tr.okL m (xs.map f)
 | [] => trivial
 | a :: xs => ⟨h a, NZ h xs⟩
theorem PU.okd {sg : List G} {x : Tr} (h : PU sg x) (hl : sg.length ≤ 1000) (m : Nat) : Tr.ok (m + 3) x := by
 obtain ⟨rs, rfl, e, _, _, _⟩ := h.at_
 refine ⟨m + 2, rfl, ?_, NZ (f := trR) (m := m + 2) (fun r => ⟨m + 1, rfl, by simp, trivial, trivial, Sj m _, trivial⟩) rs⟩
 have := NX rs
 rw [e] at this
 rw [List.length_map]; omega
def Oy (rs : List Run) : Prop := Far rs ∧ Nv rs
theorem Qd {rs : List Run} {r r' : Run} (h : Oy (rs ++ [r])) (nb : ¬ BK (r.all ++ [r'.g])) (o : Own r'.all r'.t) : Oy (rs ++ [r] ++ [r']) :=
 ⟨ON h.1 nb, fun x hx => by
  rcases List.mem_append.mp hx with z | z
  ·exact h.2 x z
  ·rw [List.mem_singleton.mp z]; exact o⟩
theorem Qt {rs : List Run} {r r' : Run} (h : Oy (rs ++ [r])) (e : r.g = r'.g) (o : Own r'.all r'.t) : Oy (rs ++ [r']) :=
 ⟨OR h.1 e, fun x hx => by
  rcases List.mem_append.mp hx with z | z
  ·exact h.2 x (List.mem_append_left _ z)
  ·rw [List.mem_singleton.mp z]; exact o⟩
theorem Q9 {r : Run} (o : Own r.all r.t) : Oy ([] ++ [r]) := ⟨trivial, fun x hx => by rw [List.mem_singleton.mp hx]; exact o⟩
structure SE (H' : Hp) (R S L : Addr) (as1 : List Addr) (sg : List G) (ra : List Addr) (rs : List Run) (bs : List Addr) (cur : List G) (tv : V) (i : Nat) : Prop where
 eR : H' R = some (.lst (ra.map V.ref))
 at_ : Paired (GE H') ra rs
 eL : H' L = some (.lst (bs.map V.ref))
 gb : Ab H' bs cur
 neL : L ≠ R
 eS : H' S = some (.lst (as1.map V.ref))
 gS : Ab H' as1 sg
 neS : S ≠ R
 sp : rs.flatMap Run.all ++ cur = sg.take i
 th : (cur = [] ∧ rs = [] ∧ i = 0) ∨ ∃ q t g rest, tv = .ref q ∧ H' q = some (.tup t.vs) ∧ OkT t ∧ (∀ x ∈ cur, t.pas x) ∧ cur = g :: rest ∧ Oy (rs ++ [⟨g, rest, t⟩])
theorem SE.same {H H' : Hp} {R S L : Addr} {as1 : List Addr} {sg : List G} {ra : List Addr} {rs : List Run} {bs : List Addr} {cur : List G} {tv : V} {i : Nat} (h : SE H R S L as1 sg ra rs bs cur tv i) (s : AH H H') : SE H' R S L as1 sg ra rs bs cur tv i :=
 ⟨s.get h.eR, Paired.mapP h.at_ fun _ _ e => e.same s, s.get h.eL, h.gb.same s, h.neL, s.get h.eS, h.gS.same s, h.neS, h.sp, h.th.imp_right fun ⟨q, t, g, rest, e1, e2, e3⟩ => ⟨q, t, g, rest, e1, s.get e2, e3⟩⟩
theorem Qy {H : Hp} {D : Addr} {as : List Addr} {rs : List Run} {gs sg : List G} (h : NK H D as rs gs) (o : Nv rs) (hp : sg.Perm gs) (ha : Asc sg) : PU sg (.l (rs.map trR)) ∧ Enc H (.l (rs.map trR)) (.ref D) :=
 ⟨⟨rs, rfl, A7 h.asc ha (h.perm.trans hp.symm), h.far, o, Paired.all (P := fun r : Run => OkT r.t ∧ ∀ g ∈ r.all, r.t.pas g) (fun _ _ ⟨_, _, _, e⟩ => e) h.at_⟩, ⟨D, _, rfl, h.eD, Ta h.at_⟩⟩
noncomputable def tri (gs : List G) (i j : Nat) : List Thr := ⟨(gs.getD 0 ⟨0, 0, 0⟩).f, 1, 0, 1⟩ :: Jx gs i j
theorem Qj {gs : List G} {t : Thr} (h : 0 < gs.length) (o : Own (gs.take 1) t) : [t] = tri gs 0 0 := by
 match gs, h, o with
 | g :: r, _, o => rw [o.1 g rfl]; rfl
theorem SK (gs : List G) (i : Nat) : tri gs i (gs.drop (i + 1)).length = tri gs (i + 1) 0 := by unfold tri; rw [QJ]
theorem Q1 {gs : List G} {i j : Nat} {x y : G} {t : Thr} {ts : List Thr} (e : ts = tri gs i j) (hx : gs[i]? = some x) (hy : gs[i + 1 + j]? = some y) (lt : x.p < y.p) (h : M6 x y t) : ts ++ [t] = tri gs i (j + 1) := by
 unfold tri at *
 rw [Ov hx hy, e, R4 lt h]; rfl
theorem SZ (gs : List G) : tri gs gs.length 0 = JU gs := rfl
def R9 (sg : List G) (t : Thr) : Prop := ∃ i : Nat, (JU sg)[i]? = some t ∧ ∀ (j : Nat) (t' : Thr), (JU sg)[j]? = some t' → JM sg t' ≤ JM sg t ∧ (j < i → JM sg t' < JM sg t)
theorem R3 {H : Hp} {D : Addr} {gs : List G} {L q : Addr} {t : Thr} {sg : List G} (h : Fl H D gs L q t sg) (f : R9 sg t) : RI sg (.t [.l ((AU (sg.filter fun g => decide (t.pas g))).map Tr.i), trT t]) ∧ Enc H (.t [.l ((AU (sg.filter fun g => decide (t.pas g))).map Tr.i), trT t]) (.ref D) := by
 obtain ⟨i, e, b⟩ := f
 exact ⟨⟨i, t, e, b, rfl⟩, D, _, rfl, h.eD, _, _, rfl, ⟨L, _, rfl, h.eL, BG.ints H _⟩, _, _, rfl, Qi h.eq, rfl⟩
mutual
theorem Enc.sameT {H H' : Hp} {T : Addr} {pos : Pos} {qual : Str} (s : Bn T H H') (tb : LM.Tbl H T pos qual) : ∀ {x : Tr} {v : V}, Enc H x v → Enc H' x v
 | .i _, _, h => h
 | .s _, _, h => h
 | .l _, _, ⟨p, vs, e, h, r⟩ => ⟨p, vs, e, s.get tb h (fun _ z => nomatch z), BG.sameT s tb r⟩
 | .t _, _, ⟨p, vs, e, h, r⟩ => ⟨p, vs, e, s.get tb h (fun _ z => nomatch z), BG.sameT s tb r⟩
theorem BG.sameT {H H' : Hp} {T : Addr} {pos : Pos} {qual : Str} (s : Bn T H H') (tb : LM.Tbl H T pos qual) : ∀ {xs : List Tr} {vs : List V}, BG H xs vs → BG H' xs vs
 | [], _, h => h
 | _ :: _, _, ⟨v, r, e, h1, h2⟩ => ⟨v, r, e, Enc.sameT s tb h1, BG.sameT s tb h2⟩
end
end TG
set_option Elab.async false
set_option linter.all false
set_option maxRecDepth 100000
set_option maxHeartbeats 4000000
namespace TG
open PySem L2
abbrev GT : Type := Str → Str → Str → Str → Str → Str → Str → Str → Str → Str → Str → Str → Str → Str → Str → Str → Str → Str → Str → Str → Str → Str → Str → Str → Str → Str → Str → Str → Str → Str → Str → Str → Str → Str → Str → Str → Str → Str → Str → Str → Str → Str → Str → Str → Str → Str → Str → Str → Str → Str → Str → Str → Str → Str → Str → Str → Str → Str → Str → Str → Str → Str → Str → Str → Str → Str → Str → Str → Str → Str → Str → Str → Str → Str → Str → Str → Str → Str → Str → Str → Str → Str → Str → Str → Str → Str → Str → Str → Str → Str → Str → Str → Str → Str → Str → Str → Str → Str → Str → Str → Str → Str → Str → Str → Str → Str → Str → Str → Str → Str → Str → Str → Str → Str → Str → Str → Str → Str → Str → Str → Str → Str → Str → Str → Str → Str → Str → Str → Str → Str → Str → Str → Str → Str → Str → Str → Str → Str → Str → Str → Str → Str → Str → Str → Str → Str → Str → Str → Str → Str → Str → Str → Str → Str → Str → Str → Str → Str → Str → Str → Str → Str → Str → Str → Str → Str → Str → Str → Str → Str → Str → Str → Str → Str → Str → Str → Str → Str → Str → Str → Str → Str → Str → Str → Str → Str → Str → Str → Str → Str → Str → Str → Str → Str → Str → Str → Str → Str → Str → Str → Str → Str → Str → Str → Str → Str → Str → Str → Str → Str → Str → Str → Str → Str → Str → Str → Str → Str → Str → Str → Str → Str → Str → Str → Program
def EqA (p : Program) (G : GT) : Prop := p = G (.ofString "_law_rows") (.ofString "_law_found") (.ofString "_law_due") (.ofString "isinstance") (.ofString "list") (.ofString "len") (.ofString "_law_k") (.ofString "range") (.ofString "_law_numbers") (.ofString "_law_list") (.ofString "_law_whole") (.ofString "_law_same") (.ofString "_law_one") (.ofString "_law_two") (.ofString "_law_deep") (.ofString "tuple") (.ofString "bool") (.ofString "int") (.ofString "str") (.ofString "_law_told") (.ofString "_law_beach") (.ofString "_law_places") (.ofString "_law_throw") (.ofString "_law_handed") (.ofString "_law_told_here") (.ofString "gates") (.ofString "runs") (.ofString "passed") (.ofString "most") (.ofString "through") (.ofString "steepest") (.ofString "flattest") (.ofString "_law_kept") (.ofString "append") (.ofString "clear") (.ofString "insert") (.ofString "pop") (.ofString "_law_row") (.ofString "law") (.ofString "_law_script") (.ofString "_law_gates") (.ofString "_law_at") (.ofString "Beach") (.ofString "_law_place") (.ofString "_law_foot") (.ofString "_law_head") (.ofString "put") (.ofString "_law_gate") (.ofString ".0") (.ofString "_law_first") (.ofString "_law_second") (.ofString "sorted") (.ofString "_law_many") (.ofString "deeds") (.ofString "fast") (.ofString "_law_heights") (.ofString "_law_kind") (.ofString "_law_line") (.ofString "_law_wide") (.ofString "_law_low") (.ofString "_law_high") (.ofString "_law_under") (.ofString "_law_over") (.ofString "_law_at_here") (.ofString "_law_cell") (.ofString "_law_spread") (.ofString "_law_lows") (.ofString "_law_highs") (.ofString "_law_span") (.ofString "max") (.ofString "_law_near") (.ofString "_law_ends") (.ofString "_law_made") (.ofString "_law_used") (.ofString "_law_step") (.ofString "min") (.ofString "__init__") (.ofString "self") (.ofString "standing") (.ofString "past") (.ofString "has_gate") (.ofString "place") (.ofString "gate") (.ofString "gate_at") (.ofString "NoGate") (.ofString "no gate stands at this place") (.ofString "do_deed") (.ofString "instead") (.ofString "MOST_DEEDS") (.ofString "DeedsFull") (.ofString "no more deeds may stand") (.ofString "others") (.ofString "foot") (.ofString "head") (.ofString "Taken") (.ofString "a gate stands at this place already") (.ofString "check_gate") (.ofString "MOST_GATES") (.ofString "BeachFull") (.ofString "no more gates may stand") (.ofString "take") (.ofString "_wall") (.ofString "lift") (.ofString "foot_by") (.ofString "head_by") (.ofString "sink") (.ofString "back") (.ofString "many") (.ofString "gates_at") (.ofString "places") (.ofString "check_places") (.ofString "two_gates_at") (.ofString "TooFew") (.ofString "one gate alone has no steepest and no flattest throw") (.ofString "throw_through") (.ofString "steepest_throw") (.ofString "flattest_throw") (.ofString "fewest_runs") (.ofString "SMALL_BEACH") (.ofString "WrongSize") (.ofString "the most are told of a small beach that is not empty") (.ofString "most_gates") (.ofString "throw") (.ofString "check_throw") (.ofString "places_passed") (.ofString "__name__") (.ofString "law_throwgate_k28_own_lists") (.ofString "_law_mixed") (.ofString "_law_left") (.ofString "_law_once") (.ofString "throwgate.beach") (.ofString "UpsideDown") (.ofString "the foot would be above the head") (.ofString "number") (.ofString "LEAST") (.ofString "GREATEST") (.ofString "OutOfBounds") (.ofString "a place, foot or head would be out of bounds") (.ofString "BadList") (.ofString "the list has no place") (.ofString "the list has too many places") (.ofString "set") (.ofString "the list has a place twice") (.ofString "BadThrow") (.ofString "a bottom is below 1") (.ofString "GREAT_NUMBER") (.ofString "a number of the throw is too great") (.ofString "run_told") (.ofString "run") (.ofString "longer") (.ofString "longer_throw") (.ofString "common_throw") (.ofString "throwgate.small") (.ofString "tried_throws") (.ofString "ordered") (.ofString "throws") (.ofString "index") (.ofString "earlier") (.ofString "enumerate") (.ofString "later") (.ofString "line_by") (.ofString "tried") (.ofString "key") (.ofString "told") (.ofString "turned_over") (.ofString "turned_throw") (.ofString "found") (.ofString "steepest_found") (.ofString "bar_told") (.ofString "throwgate.shore") (.ofString "level_throw") (.ofString "bar") (.ofString "first_three") (.ofString "foot_to_head") (.ofString "tightest_pair") (.ofString "pair") (.ofString "compare") (.ofString "foot_place") (.ofString "head_place") (.ofString "passes_all") (.ofString "height") (.ofString "other") (.ofString "second") (.ofString "steps") (.ofString "gain") (.ofString "start") (.ofString "lowest") (.ofString "rise") (.ofString "passes") (.ofString "height_at") (.ofString "throwgate.lists") (.ofString "all") (.ofString "top") (.ofString "bottom") (.ofString "divisor") (.ofString "greatest_divisor") (.ofString "abs") (.ofString "one") (.ofString "two") (.ofString "left") (.ofString "right") (.ofString "throwgate.lines") (.ofString "height_top") (.ofString "height_bottom") (.ofString "rise_top") (.ofString "rise_bottom") (.ofString "barring") (.ofString "three") (.ofString "side_of_line") (.ofString "") (.ofString "count") (.ofString "first") (.ofString "middle") (.ofString "last") (.ofString "throwgate.fracs") (.ofString "rest") (.ofString "next_rest") (.ofString "BeachError") (.ofString "throwgate.bars") (.ofString "end") (.ofString "ValueError") (.ofString "throwgate.errors") (.ofString "k") (.ofString "/claim/cut.py")
noncomputable def Gp : GT := by
 refine' (?m : _ → GT) (?h : EqA PySem.Challenge.pw_throwgate_k28_own_lists ?G)
 case h =>
  delta EqA PySem.Challenge.pw_throwgate_k28_own_lists
  iterate 224 (generalize Str.ofString _ = x)
  exact rfl
 case m => exact fun _ => ?G
theorem Gq : EqA PySem.Challenge.pw_throwgate_k28_own_lists Gp := by delta EqA; kernel_rfl
theorem at_0 : Str.ofString "_law_rows" = Str.mk (.mk [95, 108, 97, 119, 95, 114, 111, 119, 115]) := by kernel_rfl
theorem at_1 : Str.ofString "_law_found" = Str.mk (.mk [95, 108, 97, 119, 95, 102, 111, 117, 110, 100]) := by kernel_rfl
theorem at_2 : Str.ofString "_law_due" = Str.mk (.mk [95, 108, 97, 119, 95, 100, 117, 101]) := by kernel_rfl
theorem at_3 : Str.ofString "isinstance" = Str.mk (.mk [105, 115, 105, 110, 115, 116, 97, 110, 99, 101]) := by kernel_rfl
theorem at_4 : Str.ofString "list" = Str.mk (.mk [108, 105, 115, 116]) := by kernel_rfl
theorem at_5 : Str.ofString "len" = Str.mk (.mk [108, 101, 110]) := by kernel_rfl
theorem at_6 : Str.ofString "_law_k" = Str.mk (.mk [95, 108, 97, 119, 95, 107]) := by kernel_rfl
theorem at_7 : Str.ofString "range" = Str.mk (.mk [114, 97, 110, 103, 101]) := by kernel_rfl
theorem at_8 : Str.ofString "_law_numbers" = Str.mk (.mk [95, 108, 97, 119, 95, 110, 117, 109, 98, 101, 114, 115]) := by kernel_rfl
theorem at_9 : Str.ofString "_law_list" = Str.mk (.mk [95, 108, 97, 119, 95, 108, 105, 115, 116]) := by kernel_rfl
theorem at_10 : Str.ofString "_law_whole" = Str.mk (.mk [95, 108, 97, 119, 95, 119, 104, 111, 108, 101]) := by kernel_rfl
theorem at_11 : Str.ofString "_law_same" = Str.mk (.mk [95, 108, 97, 119, 95, 115, 97, 109, 101]) := by kernel_rfl
theorem at_12 : Str.ofString "_law_one" = Str.mk (.mk [95, 108, 97, 119, 95, 111, 110, 101]) := by kernel_rfl
theorem at_13 : Str.ofString "_law_two" = Str.mk (.mk [95, 108, 97, 119, 95, 116, 119, 111]) := by kernel_rfl
theorem at_14 : Str.ofString "_law_deep" = Str.mk (.mk [95, 108, 97, 119, 95, 100, 101, 101, 112]) := by kernel_rfl
theorem at_15 : Str.ofString "tuple" = Str.mk (.mk [116, 117, 112, 108, 101]) := by kernel_rfl
theorem at_16 : Str.ofString "bool" = Str.mk (.mk [98, 111, 111, 108]) := by kernel_rfl
theorem at_17 : Str.ofString "int" = Str.mk (.mk [105, 110, 116]) := by kernel_rfl
theorem at_18 : Str.ofString "str" = Str.mk (.mk [115, 116, 114]) := by kernel_rfl
theorem at_19 : Str.ofString "_law_told" = Str.mk (.mk [95, 108, 97, 119, 95, 116, 111, 108, 100]) := by kernel_rfl
theorem at_20 : Str.ofString "_law_beach" = Str.mk (.mk [95, 108, 97, 119, 95, 98, 101, 97, 99, 104]) := by kernel_rfl
theorem at_21 : Str.ofString "_law_places" = Str.mk (.mk [95, 108, 97, 119, 95, 112, 108, 97, 99, 101, 115]) := by kernel_rfl
theorem at_22 : Str.ofString "_law_throw" = Str.mk (.mk [95, 108, 97, 119, 95, 116, 104, 114, 111, 119]) := by kernel_rfl
theorem at_23 : Str.ofString "_law_handed" = Str.mk (.mk [95, 108, 97, 119, 95, 104, 97, 110, 100, 101, 100]) := by kernel_rfl
theorem at_24 : Str.ofString "_law_told_here" = Str.mk (.mk [95, 108, 97, 119, 95, 116, 111, 108, 100, 95, 104, 101, 114, 101]) := by kernel_rfl
theorem at_25 : Str.ofString "gates" = Str.mk (.mk [103, 97, 116, 101, 115]) := by kernel_rfl
theorem at_26 : Str.ofString "runs" = Str.mk (.mk [114, 117, 110, 115]) := by kernel_rfl
theorem at_27 : Str.ofString "passed" = Str.mk (.mk [112, 97, 115, 115, 101, 100]) := by kernel_rfl
theorem at_28 : Str.ofString "most" = Str.mk (.mk [109, 111, 115, 116]) := by kernel_rfl
theorem at_29 : Str.ofString "through" = Str.mk (.mk [116, 104, 114, 111, 117, 103, 104]) := by kernel_rfl
theorem at_30 : Str.ofString "steepest" = Str.mk (.mk [115, 116, 101, 101, 112, 101, 115, 116]) := by kernel_rfl
theorem at_31 : Str.ofString "flattest" = Str.mk (.mk [102, 108, 97, 116, 116, 101, 115, 116]) := by kernel_rfl
theorem at_32 : Str.ofString "_law_kept" = Str.mk (.mk [95, 108, 97, 119, 95, 107, 101, 112, 116]) := by kernel_rfl
theorem at_33 : Str.ofString "append" = Str.mk (.mk [97, 112, 112, 101, 110, 100]) := by kernel_rfl
theorem at_34 : Str.ofString "clear" = Str.mk (.mk [99, 108, 101, 97, 114]) := by kernel_rfl
theorem at_35 : Str.ofString "insert" = Str.mk (.mk [105, 110, 115, 101, 114, 116]) := by kernel_rfl
theorem at_36 : Str.ofString "pop" = Str.mk (.mk [112, 111, 112]) := by kernel_rfl
theorem at_37 : Str.ofString "_law_row" = Str.mk (.mk [95, 108, 97, 119, 95, 114, 111, 119]) := by kernel_rfl
theorem at_38 : Str.ofString "law" = Str.mk (.mk [108, 97, 119]) := by kernel_rfl
theorem at_39 : Str.ofString "_law_script" = Str.mk (.mk [95, 108, 97, 119, 95, 115, 99, 114, 105, 112, 116]) := by kernel_rfl
theorem at_40 : Str.ofString "_law_gates" = Str.mk (.mk [95, 108, 97, 119, 95, 103, 97, 116, 101, 115]) := by kernel_rfl
theorem at_41 : Str.ofString "_law_at" = Str.mk (.mk [95, 108, 97, 119, 95, 97, 116]) := by kernel_rfl
theorem at_42 : Str.ofString "Beach" = Str.mk (.mk [66, 101, 97, 99, 104]) := by kernel_rfl
theorem at_43 : Str.ofString "_law_place" = Str.mk (.mk [95, 108, 97, 119, 95, 112, 108, 97, 99, 101]) := by kernel_rfl
theorem at_44 : Str.ofString "_law_foot" = Str.mk (.mk [95, 108, 97, 119, 95, 102, 111, 111, 116]) := by kernel_rfl
theorem at_45 : Str.ofString "_law_head" = Str.mk (.mk [95, 108, 97, 119, 95, 104, 101, 97, 100]) := by kernel_rfl
theorem at_46 : Str.ofString "put" = Str.mk (.mk [112, 117, 116]) := by kernel_rfl
theorem at_47 : Str.ofString "_law_gate" = Str.mk (.mk [95, 108, 97, 119, 95, 103, 97, 116, 101]) := by kernel_rfl
theorem at_48 : Str.ofString ".0" = Str.mk (.mk [46, 48]) := by kernel_rfl
theorem at_49 : Str.ofString "_law_first" = Str.mk (.mk [95, 108, 97, 119, 95, 102, 105, 114, 115, 116]) := by kernel_rfl
theorem at_50 : Str.ofString "_law_second" = Str.mk (.mk [95, 108, 97, 119, 95, 115, 101, 99, 111, 110, 100]) := by kernel_rfl
theorem at_51 : Str.ofString "sorted" = Str.mk (.mk [115, 111, 114, 116, 101, 100]) := by kernel_rfl
theorem at_52 : Str.ofString "_law_many" = Str.mk (.mk [95, 108, 97, 119, 95, 109, 97, 110, 121]) := by kernel_rfl
theorem at_53 : Str.ofString "deeds" = Str.mk (.mk [100, 101, 101, 100, 115]) := by kernel_rfl
theorem at_54 : Str.ofString "fast" = Str.mk (.mk [102, 97, 115, 116]) := by kernel_rfl
theorem at_55 : Str.ofString "_law_heights" = Str.mk (.mk [95, 108, 97, 119, 95, 104, 101, 105, 103, 104, 116, 115]) := by kernel_rfl
theorem at_56 : Str.ofString "_law_kind" = Str.mk (.mk [95, 108, 97, 119, 95, 107, 105, 110, 100]) := by kernel_rfl
theorem at_57 : Str.ofString "_law_line" = Str.mk (.mk [95, 108, 97, 119, 95, 108, 105, 110, 101]) := by kernel_rfl
theorem at_58 : Str.ofString "_law_wide" = Str.mk (.mk [95, 108, 97, 119, 95, 119, 105, 100, 101]) := by kernel_rfl
theorem at_59 : Str.ofString "_law_low" = Str.mk (.mk [95, 108, 97, 119, 95, 108, 111, 119]) := by kernel_rfl
theorem at_60 : Str.ofString "_law_high" = Str.mk (.mk [95, 108, 97, 119, 95, 104, 105, 103, 104]) := by kernel_rfl
theorem at_61 : Str.ofString "_law_under" = Str.mk (.mk [95, 108, 97, 119, 95, 117, 110, 100, 101, 114]) := by kernel_rfl
theorem at_62 : Str.ofString "_law_over" = Str.mk (.mk [95, 108, 97, 119, 95, 111, 118, 101, 114]) := by kernel_rfl
theorem at_63 : Str.ofString "_law_at_here" = Str.mk (.mk [95, 108, 97, 119, 95, 97, 116, 95, 104, 101, 114, 101]) := by kernel_rfl
theorem at_64 : Str.ofString "_law_cell" = Str.mk (.mk [95, 108, 97, 119, 95, 99, 101, 108, 108]) := by kernel_rfl
theorem at_65 : Str.ofString "_law_spread" = Str.mk (.mk [95, 108, 97, 119, 95, 115, 112, 114, 101, 97, 100]) := by kernel_rfl
theorem at_66 : Str.ofString "_law_lows" = Str.mk (.mk [95, 108, 97, 119, 95, 108, 111, 119, 115]) := by kernel_rfl
theorem at_67 : Str.ofString "_law_highs" = Str.mk (.mk [95, 108, 97, 119, 95, 104, 105, 103, 104, 115]) := by kernel_rfl
theorem at_68 : Str.ofString "_law_span" = Str.mk (.mk [95, 108, 97, 119, 95, 115, 112, 97, 110]) := by kernel_rfl
theorem at_69 : Str.ofString "max" = Str.mk (.mk [109, 97, 120]) := by kernel_rfl
theorem at_70 : Str.ofString "_law_near" = Str.mk (.mk [95, 108, 97, 119, 95, 110, 101, 97, 114]) := by kernel_rfl
theorem at_71 : Str.ofString "_law_ends" = Str.mk (.mk [95, 108, 97, 119, 95, 101, 110, 100, 115]) := by kernel_rfl
theorem at_72 : Str.ofString "_law_made" = Str.mk (.mk [95, 108, 97, 119, 95, 109, 97, 100, 101]) := by kernel_rfl
theorem at_73 : Str.ofString "_law_used" = Str.mk (.mk [95, 108, 97, 119, 95, 117, 115, 101, 100]) := by kernel_rfl
theorem at_74 : Str.ofString "_law_step" = Str.mk (.mk [95, 108, 97, 119, 95, 115, 116, 101, 112]) := by kernel_rfl
theorem at_75 : Str.ofString "min" = Str.mk (.mk [109, 105, 110]) := by kernel_rfl
theorem at_76 : Str.ofString "__init__" = Str.mk (.mk [95, 95, 105, 110, 105, 116, 95, 95]) := by kernel_rfl
theorem at_77 : Str.ofString "self" = Str.mk (.mk [115, 101, 108, 102]) := by kernel_rfl
theorem at_78 : Str.ofString "standing" = Str.mk (.mk [115, 116, 97, 110, 100, 105, 110, 103]) := by kernel_rfl
theorem at_79 : Str.ofString "past" = Str.mk (.mk [112, 97, 115, 116]) := by kernel_rfl
theorem at_80 : Str.ofString "has_gate" = Str.mk (.mk [104, 97, 115, 95, 103, 97, 116, 101]) := by kernel_rfl
theorem at_81 : Str.ofString "place" = Str.mk (.mk [112, 108, 97, 99, 101]) := by kernel_rfl
theorem at_82 : Str.ofString "gate" = Str.mk (.mk [103, 97, 116, 101]) := by kernel_rfl
theorem at_83 : Str.ofString "gate_at" = Str.mk (.mk [103, 97, 116, 101, 95, 97, 116]) := by kernel_rfl
theorem at_84 : Str.ofString "NoGate" = Str.mk (.mk [78, 111, 71, 97, 116, 101]) := by kernel_rfl
theorem at_85 : Str.ofString "no gate stands at this place" = Str.mk (.mk [110, 111, 32, 103, 97, 116, 101, 32, 115, 116, 97, 110, 100, 115, 32, 97, 116, 32, 116, 104, 105, 115, 32, 112, 108, 97, 99, 101]) := by kernel_rfl
theorem at_86 : Str.ofString "do_deed" = Str.mk (.mk [100, 111, 95, 100, 101, 101, 100]) := by kernel_rfl
theorem at_87 : Str.ofString "instead" = Str.mk (.mk [105, 110, 115, 116, 101, 97, 100]) := by kernel_rfl
theorem at_88 : Str.ofString "MOST_DEEDS" = Str.mk (.mk [77, 79, 83, 84, 95, 68, 69, 69, 68, 83]) := by kernel_rfl
theorem at_89 : Str.ofString "DeedsFull" = Str.mk (.mk [68, 101, 101, 100, 115, 70, 117, 108, 108]) := by kernel_rfl
theorem at_90 : Str.ofString "no more deeds may stand" = Str.mk (.mk [110, 111, 32, 109, 111, 114, 101, 32, 100, 101, 101, 100, 115, 32, 109, 97, 121, 32, 115, 116, 97, 110, 100]) := by kernel_rfl
theorem at_91 : Str.ofString "others" = Str.mk (.mk [111, 116, 104, 101, 114, 115]) := by kernel_rfl
theorem at_92 : Str.ofString "foot" = Str.mk (.mk [102, 111, 111, 116]) := by kernel_rfl
theorem at_93 : Str.ofString "head" = Str.mk (.mk [104, 101, 97, 100]) := by kernel_rfl
theorem at_94 : Str.ofString "Taken" = Str.mk (.mk [84, 97, 107, 101, 110]) := by kernel_rfl
theorem at_95 : Str.ofString "a gate stands at this place already" = Str.mk (.mk [97, 32, 103, 97, 116, 101, 32, 115, 116, 97, 110, 100, 115, 32, 97, 116, 32, 116, 104, 105, 115, 32, 112, 108, 97, 99, 101, 32, 97, 108, 114, 101, 97, 100, 121]) := by kernel_rfl
theorem at_96 : Str.ofString "check_gate" = Str.mk (.mk [99, 104, 101, 99, 107, 95, 103, 97, 116, 101]) := by kernel_rfl
theorem at_97 : Str.ofString "MOST_GATES" = Str.mk (.mk [77, 79, 83, 84, 95, 71, 65, 84, 69, 83]) := by kernel_rfl
theorem at_98 : Str.ofString "BeachFull" = Str.mk (.mk [66, 101, 97, 99, 104, 70, 117, 108, 108]) := by kernel_rfl
theorem at_99 : Str.ofString "no more gates may stand" = Str.mk (.mk [110, 111, 32, 109, 111, 114, 101, 32, 103, 97, 116, 101, 115, 32, 109, 97, 121, 32, 115, 116, 97, 110, 100]) := by kernel_rfl
theorem Vd : Str.ofString "take" = Str.mk (.mk [116, 97, 107, 101]) := by kernel_rfl
theorem Uj : Str.ofString "_wall" = Str.mk (.mk [95, 119, 97, 108, 108]) := by kernel_rfl
theorem Vv : Str.ofString "lift" = Str.mk (.mk [108, 105, 102, 116]) := by kernel_rfl
theorem Up : Str.ofString "foot_by" = Str.mk (.mk [102, 111, 111, 116, 95, 98, 121]) := by kernel_rfl
theorem Ua : Str.ofString "head_by" = Str.mk (.mk [104, 101, 97, 100, 95, 98, 121]) := by kernel_rfl
theorem WS : Str.ofString "sink" = Str.mk (.mk [115, 105, 110, 107]) := by kernel_rfl
theorem UV : Str.ofString "back" = Str.mk (.mk [98, 97, 99, 107]) := by kernel_rfl
theorem Vt : Str.ofString "many" = Str.mk (.mk [109, 97, 110, 121]) := by kernel_rfl
theorem Th : Str.ofString "gates_at" = Str.mk (.mk [103, 97, 116, 101, 115, 95, 97, 116]) := by kernel_rfl
theorem UZ : Str.ofString "places" = Str.mk (.mk [112, 108, 97, 99, 101, 115]) := by kernel_rfl
theorem UH : Str.ofString "check_places" = Str.mk (.mk [99, 104, 101, 99, 107, 95, 112, 108, 97, 99, 101, 115]) := by kernel_rfl
theorem VI : Str.ofString "two_gates_at" = Str.mk (.mk [116, 119, 111, 95, 103, 97, 116, 101, 115, 95, 97, 116]) := by kernel_rfl
theorem Va : Str.ofString "TooFew" = Str.mk (.mk [84, 111, 111, 70, 101, 119]) := by kernel_rfl
theorem T9 : Str.ofString "one gate alone has no steepest and no flattest throw" = Str.mk (.mk [111, 110, 101, 32, 103, 97, 116, 101, 32, 97, 108, 111, 110, 101, 32, 104, 97, 115, 32, 110, 111, 32, 115, 116, 101, 101, 112, 101, 115, 116, 32, 97, 110, 100, 32, 110, 111, 32, 102, 108, 97, 116, 116, 101, 115, 116, 32, 116, 104, 114, 111, 119]) := by kernel_rfl
theorem T1 : Str.ofString "throw_through" = Str.mk (.mk [116, 104, 114, 111, 119, 95, 116, 104, 114, 111, 117, 103, 104]) := by kernel_rfl
theorem Uw : Str.ofString "steepest_throw" = Str.mk (.mk [115, 116, 101, 101, 112, 101, 115, 116, 95, 116, 104, 114, 111, 119]) := by kernel_rfl
theorem U5 : Str.ofString "flattest_throw" = Str.mk (.mk [102, 108, 97, 116, 116, 101, 115, 116, 95, 116, 104, 114, 111, 119]) := by kernel_rfl
theorem U1 : Str.ofString "fewest_runs" = Str.mk (.mk [102, 101, 119, 101, 115, 116, 95, 114, 117, 110, 115]) := by kernel_rfl
theorem US : Str.ofString "SMALL_BEACH" = Str.mk (.mk [83, 77, 65, 76, 76, 95, 66, 69, 65, 67, 72]) := by kernel_rfl
theorem V6 : Str.ofString "WrongSize" = Str.mk (.mk [87, 114, 111, 110, 103, 83, 105, 122, 101]) := by kernel_rfl
theorem UA : Str.ofString "the most are told of a small beach that is not empty" = Str.mk (.mk [116, 104, 101, 32, 109, 111, 115, 116, 32, 97, 114, 101, 32, 116, 111, 108, 100, 32, 111, 102, 32, 97, 32, 115, 109, 97, 108, 108, 32, 98, 101, 97, 99, 104, 32, 116, 104, 97, 116, 32, 105, 115, 32, 110, 111, 116, 32, 101, 109, 112, 116, 121]) := by kernel_rfl
theorem VP : Str.ofString "most_gates" = Str.mk (.mk [109, 111, 115, 116, 95, 103, 97, 116, 101, 115]) := by kernel_rfl
theorem V0 : Str.ofString "throw" = Str.mk (.mk [116, 104, 114, 111, 119]) := by kernel_rfl
theorem UX : Str.ofString "check_throw" = Str.mk (.mk [99, 104, 101, 99, 107, 95, 116, 104, 114, 111, 119]) := by kernel_rfl
theorem VQ : Str.ofString "places_passed" = Str.mk (.mk [112, 108, 97, 99, 101, 115, 95, 112, 97, 115, 115, 101, 100]) := by kernel_rfl
theorem WI : Str.ofString "__name__" = Str.mk (.mk [95, 95, 110, 97, 109, 101, 95, 95]) := by kernel_rfl
theorem VS : Str.ofString "law_throwgate_k28_own_lists" = Str.mk (.mk [108, 97, 119, 95, 116, 104, 114, 111, 119, 103, 97, 116, 101, 95, 107, 50, 56, 95, 111, 119, 110, 95, 108, 105, 115, 116, 115]) := by kernel_rfl
theorem WT : Str.ofString "_law_mixed" = Str.mk (.mk [95, 108, 97, 119, 95, 109, 105, 120, 101, 100]) := by kernel_rfl
theorem UL : Str.ofString "_law_left" = Str.mk (.mk [95, 108, 97, 119, 95, 108, 101, 102, 116]) := by kernel_rfl
theorem V4 : Str.ofString "_law_once" = Str.mk (.mk [95, 108, 97, 119, 95, 111, 110, 99, 101]) := by kernel_rfl
theorem UO : Str.ofString "throwgate.beach" = Str.mk (.mk [116, 104, 114, 111, 119, 103, 97, 116, 101, 46, 98, 101, 97, 99, 104]) := by kernel_rfl
theorem V7 : Str.ofString "UpsideDown" = Str.mk (.mk [85, 112, 115, 105, 100, 101, 68, 111, 119, 110]) := by kernel_rfl
theorem U4 : Str.ofString "the foot would be above the head" = Str.mk (.mk [116, 104, 101, 32, 102, 111, 111, 116, 32, 119, 111, 117, 108, 100, 32, 98, 101, 32, 97, 98, 111, 118, 101, 32, 116, 104, 101, 32, 104, 101, 97, 100]) := by kernel_rfl
theorem VJ : Str.ofString "number" = Str.mk (.mk [110, 117, 109, 98, 101, 114]) := by kernel_rfl
theorem VX : Str.ofString "LEAST" = Str.mk (.mk [76, 69, 65, 83, 84]) := by kernel_rfl
theorem Vo : Str.ofString "GREATEST" = Str.mk (.mk [71, 82, 69, 65, 84, 69, 83, 84]) := by kernel_rfl
theorem VN : Str.ofString "OutOfBounds" = Str.mk (.mk [79, 117, 116, 79, 102, 66, 111, 117, 110, 100, 115]) := by kernel_rfl
theorem UT : Str.ofString "a place, foot or head would be out of bounds" = Str.mk (.mk [97, 32, 112, 108, 97, 99, 101, 44, 32, 102, 111, 111, 116, 32, 111, 114, 32, 104, 101, 97, 100, 32, 119, 111, 117, 108, 100, 32, 98, 101, 32, 111, 117, 116, 32, 111, 102, 32, 98, 111, 117, 110, 100, 115]) := by kernel_rfl
theorem Ui : Str.ofString "BadList" = Str.mk (.mk [66, 97, 100, 76, 105, 115, 116]) := by kernel_rfl
theorem T4 : Str.ofString "the list has no place" = Str.mk (.mk [116, 104, 101, 32, 108, 105, 115, 116, 32, 104, 97, 115, 32, 110, 111, 32, 112, 108, 97, 99, 101]) := by kernel_rfl
theorem WU : Str.ofString "the list has too many places" = Str.mk (.mk [116, 104, 101, 32, 108, 105, 115, 116, 32, 104, 97, 115, 32, 116, 111, 111, 32, 109, 97, 110, 121, 32, 112, 108, 97, 99, 101, 115]) := by kernel_rfl
theorem VW : Str.ofString "set" = Str.mk (.mk [115, 101, 116]) := by kernel_rfl
theorem Vx : Str.ofString "the list has a place twice" = Str.mk (.mk [116, 104, 101, 32, 108, 105, 115, 116, 32, 104, 97, 115, 32, 97, 32, 112, 108, 97, 99, 101, 32, 116, 119, 105, 99, 101]) := by kernel_rfl
theorem UR : Str.ofString "BadThrow" = Str.mk (.mk [66, 97, 100, 84, 104, 114, 111, 119]) := by kernel_rfl
theorem Vc : Str.ofString "a bottom is below 1" = Str.mk (.mk [97, 32, 98, 111, 116, 116, 111, 109, 32, 105, 115, 32, 98, 101, 108, 111, 119, 32, 49]) := by kernel_rfl
theorem V9 : Str.ofString "GREAT_NUMBER" = Str.mk (.mk [71, 82, 69, 65, 84, 95, 78, 85, 77, 66, 69, 82]) := by kernel_rfl
theorem WJ : Str.ofString "a number of the throw is too great" = Str.mk (.mk [97, 32, 110, 117, 109, 98, 101, 114, 32, 111, 102, 32, 116, 104, 101, 32, 116, 104, 114, 111, 119, 32, 105, 115, 32, 116, 111, 111, 32, 103, 114, 101, 97, 116]) := by kernel_rfl
theorem V3 : Str.ofString "run_told" = Str.mk (.mk [114, 117, 110, 95, 116, 111, 108, 100]) := by kernel_rfl
theorem Ux : Str.ofString "run" = Str.mk (.mk [114, 117, 110]) := by kernel_rfl
theorem UQ : Str.ofString "longer" = Str.mk (.mk [108, 111, 110, 103, 101, 114]) := by kernel_rfl
theorem Uu : Str.ofString "longer_throw" = Str.mk (.mk [108, 111, 110, 103, 101, 114, 95, 116, 104, 114, 111, 119]) := by kernel_rfl
theorem VB : Str.ofString "common_throw" = Str.mk (.mk [99, 111, 109, 109, 111, 110, 95, 116, 104, 114, 111, 119]) := by kernel_rfl
theorem UM : Str.ofString "throwgate.small" = Str.mk (.mk [116, 104, 114, 111, 119, 103, 97, 116, 101, 46, 115, 109, 97, 108, 108]) := by kernel_rfl
theorem Vl : Str.ofString "tried_throws" = Str.mk (.mk [116, 114, 105, 101, 100, 95, 116, 104, 114, 111, 119, 115]) := by kernel_rfl
theorem VG : Str.ofString "ordered" = Str.mk (.mk [111, 114, 100, 101, 114, 101, 100]) := by kernel_rfl
theorem WL : Str.ofString "throws" = Str.mk (.mk [116, 104, 114, 111, 119, 115]) := by kernel_rfl
theorem Us : Str.ofString "index" = Str.mk (.mk [105, 110, 100, 101, 120]) := by kernel_rfl
theorem UD : Str.ofString "earlier" = Str.mk (.mk [101, 97, 114, 108, 105, 101, 114]) := by kernel_rfl
theorem WN : Str.ofString "enumerate" = Str.mk (.mk [101, 110, 117, 109, 101, 114, 97, 116, 101]) := by kernel_rfl
theorem WQ : Str.ofString "later" = Str.mk (.mk [108, 97, 116, 101, 114]) := by kernel_rfl
theorem Vr : Str.ofString "line_by" = Str.mk (.mk [108, 105, 110, 101, 95, 98, 121]) := by kernel_rfl
theorem T5 : Str.ofString "tried" = Str.mk (.mk [116, 114, 105, 101, 100]) := by kernel_rfl
theorem Tv : Str.ofString "key" = Str.mk (.mk [107, 101, 121]) := by kernel_rfl
theorem Ul : Str.ofString "told" = Str.mk (.mk [116, 111, 108, 100]) := by kernel_rfl
theorem Tj : Str.ofString "turned_over" = Str.mk (.mk [116, 117, 114, 110, 101, 100, 95, 111, 118, 101, 114]) := by kernel_rfl
theorem Tu : Str.ofString "turned_throw" = Str.mk (.mk [116, 117, 114, 110, 101, 100, 95, 116, 104, 114, 111, 119]) := by kernel_rfl
theorem Vp : Str.ofString "found" = Str.mk (.mk [102, 111, 117, 110, 100]) := by kernel_rfl
theorem Uz : Str.ofString "steepest_found" = Str.mk (.mk [115, 116, 101, 101, 112, 101, 115, 116, 95, 102, 111, 117, 110, 100]) := by kernel_rfl
theorem Uf : Str.ofString "bar_told" = Str.mk (.mk [98, 97, 114, 95, 116, 111, 108, 100]) := by kernel_rfl
theorem VD : Str.ofString "throwgate.shore" = Str.mk (.mk [116, 104, 114, 111, 119, 103, 97, 116, 101, 46, 115, 104, 111, 114, 101]) := by kernel_rfl
theorem Ub : Str.ofString "level_throw" = Str.mk (.mk [108, 101, 118, 101, 108, 95, 116, 104, 114, 111, 119]) := by kernel_rfl
theorem VL : Str.ofString "bar" = Str.mk (.mk [98, 97, 114]) := by kernel_rfl
theorem Uo : Str.ofString "first_three" = Str.mk (.mk [102, 105, 114, 115, 116, 95, 116, 104, 114, 101, 101]) := by kernel_rfl
theorem Tl : Str.ofString "foot_to_head" = Str.mk (.mk [102, 111, 111, 116, 95, 116, 111, 95, 104, 101, 97, 100]) := by kernel_rfl
theorem Uc : Str.ofString "tightest_pair" = Str.mk (.mk [116, 105, 103, 104, 116, 101, 115, 116, 95, 112, 97, 105, 114]) := by kernel_rfl
theorem UC : Str.ofString "pair" = Str.mk (.mk [112, 97, 105, 114]) := by kernel_rfl
theorem U8 : Str.ofString "compare" = Str.mk (.mk [99, 111, 109, 112, 97, 114, 101]) := by kernel_rfl
theorem UY : Str.ofString "foot_place" = Str.mk (.mk [102, 111, 111, 116, 95, 112, 108, 97, 99, 101]) := by kernel_rfl
theorem VA : Str.ofString "head_place" = Str.mk (.mk [104, 101, 97, 100, 95, 112, 108, 97, 99, 101]) := by kernel_rfl
theorem UK : Str.ofString "passes_all" = Str.mk (.mk [112, 97, 115, 115, 101, 115, 95, 97, 108, 108]) := by kernel_rfl
theorem UF : Str.ofString "height" = Str.mk (.mk [104, 101, 105, 103, 104, 116]) := by kernel_rfl
theorem Vg : Str.ofString "other" = Str.mk (.mk [111, 116, 104, 101, 114]) := by kernel_rfl
theorem V2 : Str.ofString "second" = Str.mk (.mk [115, 101, 99, 111, 110, 100]) := by kernel_rfl
theorem T6 : Str.ofString "steps" = Str.mk (.mk [115, 116, 101, 112, 115]) := by kernel_rfl
theorem UJ : Str.ofString "gain" = Str.mk (.mk [103, 97, 105, 110]) := by kernel_rfl
theorem V8 : Str.ofString "start" = Str.mk (.mk [115, 116, 97, 114, 116]) := by kernel_rfl
theorem UE : Str.ofString "lowest" = Str.mk (.mk [108, 111, 119, 101, 115, 116]) := by kernel_rfl
theorem VM : Str.ofString "rise" = Str.mk (.mk [114, 105, 115, 101]) := by kernel_rfl
theorem V5 : Str.ofString "passes" = Str.mk (.mk [112, 97, 115, 115, 101, 115]) := by kernel_rfl
theorem WR : Str.ofString "height_at" = Str.mk (.mk [104, 101, 105, 103, 104, 116, 95, 97, 116]) := by kernel_rfl
theorem UU : Str.ofString "throwgate.lists" = Str.mk (.mk [116, 104, 114, 111, 119, 103, 97, 116, 101, 46, 108, 105, 115, 116, 115]) := by kernel_rfl
theorem U9 : Str.ofString "all" = Str.mk (.mk [97, 108, 108]) := by kernel_rfl
theorem Uh : Str.ofString "top" = Str.mk (.mk [116, 111, 112]) := by kernel_rfl
theorem Tk : Str.ofString "bottom" = Str.mk (.mk [98, 111, 116, 116, 111, 109]) := by kernel_rfl
theorem WK : Str.ofString "divisor" = Str.mk (.mk [100, 105, 118, 105, 115, 111, 114]) := by kernel_rfl
theorem Uq : Str.ofString "greatest_divisor" = Str.mk (.mk [103, 114, 101, 97, 116, 101, 115, 116, 95, 100, 105, 118, 105, 115, 111, 114]) := by kernel_rfl
theorem U3 : Str.ofString "abs" = Str.mk (.mk [97, 98, 115]) := by kernel_rfl
theorem Uy : Str.ofString "one" = Str.mk (.mk [111, 110, 101]) := by kernel_rfl
theorem Ve : Str.ofString "two" = Str.mk (.mk [116, 119, 111]) := by kernel_rfl
theorem Uk : Str.ofString "left" = Str.mk (.mk [108, 101, 102, 116]) := by kernel_rfl
theorem Vu : Str.ofString "right" = Str.mk (.mk [114, 105, 103, 104, 116]) := by kernel_rfl
theorem Ts : Str.ofString "throwgate.lines" = Str.mk (.mk [116, 104, 114, 111, 119, 103, 97, 116, 101, 46, 108, 105, 110, 101, 115]) := by kernel_rfl
theorem WP : Str.ofString "height_top" = Str.mk (.mk [104, 101, 105, 103, 104, 116, 95, 116, 111, 112]) := by kernel_rfl
theorem Vk : Str.ofString "height_bottom" = Str.mk (.mk [104, 101, 105, 103, 104, 116, 95, 98, 111, 116, 116, 111, 109]) := by kernel_rfl
theorem WE : Str.ofString "rise_top" = Str.mk (.mk [114, 105, 115, 101, 95, 116, 111, 112]) := by kernel_rfl
theorem Vz : Str.ofString "rise_bottom" = Str.mk (.mk [114, 105, 115, 101, 95, 98, 111, 116, 116, 111, 109]) := by kernel_rfl
theorem T3 : Str.ofString "barring" = Str.mk (.mk [98, 97, 114, 114, 105, 110, 103]) := by kernel_rfl
theorem UB : Str.ofString "three" = Str.mk (.mk [116, 104, 114, 101, 101]) := by kernel_rfl
theorem VV : Str.ofString "side_of_line" = Str.mk (.mk [115, 105, 100, 101, 95, 111, 102, 95, 108, 105, 110, 101]) := by kernel_rfl
theorem Tt : Str.ofString "" = Str.mk (.mk []) := by kernel_rfl
theorem Vj : Str.ofString "count" = Str.mk (.mk [99, 111, 117, 110, 116]) := by kernel_rfl
theorem WH : Str.ofString "first" = Str.mk (.mk [102, 105, 114, 115, 116]) := by kernel_rfl
theorem Um : Str.ofString "middle" = Str.mk (.mk [109, 105, 100, 100, 108, 101]) := by kernel_rfl
theorem Ur : Str.ofString "last" = Str.mk (.mk [108, 97, 115, 116]) := by kernel_rfl
theorem Tz : Str.ofString "throwgate.fracs" = Str.mk (.mk [116, 104, 114, 111, 119, 103, 97, 116, 101, 46, 102, 114, 97, 99, 115]) := by kernel_rfl
theorem Vi : Str.ofString "rest" = Str.mk (.mk [114, 101, 115, 116]) := by kernel_rfl
theorem U7 : Str.ofString "next_rest" = Str.mk (.mk [110, 101, 120, 116, 95, 114, 101, 115, 116]) := by kernel_rfl
theorem UW : Str.ofString "BeachError" = Str.mk (.mk [66, 101, 97, 99, 104, 69, 114, 114, 111, 114]) := by kernel_rfl
theorem T7 : Str.ofString "throwgate.bars" = Str.mk (.mk [116, 104, 114, 111, 119, 103, 97, 116, 101, 46, 98, 97, 114, 115]) := by kernel_rfl
theorem WO : Str.ofString "end" = Str.mk (.mk [101, 110, 100]) := by kernel_rfl
theorem WF : Str.ofString "ValueError" = Str.mk (.mk [86, 97, 108, 117, 101, 69, 114, 114, 111, 114]) := by kernel_rfl
theorem VZ : Str.ofString "throwgate.errors" = Str.mk (.mk [116, 104, 114, 111, 119, 103, 97, 116, 101, 46, 101, 114, 114, 111, 114, 115]) := by kernel_rfl
theorem VY : Str.ofString "k" = Str.mk (.mk [107]) := by kernel_rfl
theorem VH : Str.ofString "/claim/cut.py" = Str.mk (.mk [47, 99, 108, 97, 105, 109, 47, 99, 117, 116, 46, 112, 121]) := by kernel_rfl
noncomputable def Tw : PSigma fun t : Program => PySem.Challenge.pw_throwgate_k28_own_lists = t := by
 have h := Gq
 simp only [EqA, at_0, at_1, at_2, at_3, at_4, at_5, at_6, at_7, at_8, at_9, at_10, at_11, at_12, at_13, at_14, at_15, at_16, at_17, at_18, at_19, at_20, at_21, at_22, at_23, at_24, at_25, at_26, at_27, at_28, at_29, at_30, at_31, at_32, at_33, at_34, at_35, at_36, at_37, at_38, at_39, at_40, at_41, at_42, at_43, at_44, at_45, at_46, at_47, at_48, at_49, at_50, at_51, at_52, at_53, at_54, at_55, at_56, at_57, at_58, at_59, at_60, at_61, at_62, at_63, at_64, at_65, at_66, at_67, at_68, at_69, at_70, at_71, at_72, at_73, at_74, at_75, at_76, at_77, at_78, at_79, at_80, at_81, at_82, at_83, at_84, at_85, at_86, at_87, at_88, at_89, at_90, at_91, at_92, at_93, at_94, at_95, at_96, at_97, at_98, at_99, Vd, Uj, Vv, Up, Ua, WS, UV, Vt, Th, UZ, UH, VI, Va, T9, T1, Uw, U5, U1, US, V6, UA, VP, V0, UX, VQ, WI, VS, WT, UL, V4, UO, V7, U4, VJ, VX, Vo, VN, UT, Ui, T4, WU, VW, Vx, UR, Vc, V9, WJ, V3, Ux, UQ, Uu, VB, UM, Vl, VG, WL, Us, UD, WN, WQ, Vr, T5, Tv, Ul, Tj, Tu, Vp, Uz, Uf, VD, Ub, VL, Uo, Tl, Uc, UC, U8, UY, VA, UK, UF, Vg, V2, T6, UJ, V8, UE, VM, V5, WR, UU, U9, Uh, Tk, WK, Uq, U3, Uy, Ve, Uk, Vu, Ts, WP, Vk, WE, Vz, T3, UB, VV, Tt, Vj, WH, Um, Ur, Tz, Vi, U7, UW, T7, WO, WF, VZ, VY, VH] at h
 exact ⟨_, h⟩
noncomputable def _root_.PySem.W.Fast.tw12572558521281119396 : PySem.Program := TG.Tw.1
theorem _root_.PySem.W.Fast.te12572558521281119396 : PySem.Challenge.pw_throwgate_k28_own_lists = PySem.W.Fast.tw12572558521281119396 := TG.Tw.2
set_option hygiene false
local macro_rules | `(tactic| walk_at "O") => `(tactic| (first | exact Or.inl rfl | exact Or.inr rfl))
local macro_rules | `(tactic| walk_at "NX") => `(tactic| (refine hM _ _ ?_; clear hM; clear M))
local macro_rules | `(tactic| walk_at "Q") => `(tactic| (refine F5 fun M hM => ?_))
local macro_rules | `(tactic| walk_at "SC") => `(tactic| (exact ⟨rfl, rfl, rfl, by decide +kernel, rfl, by decide +kernel, by decide +kernel⟩))
local macro_rules | `(tactic| walk_at "SQT0") => `(tactic| (first | with_reducible assumption | exact SqT.of (by with_reducible assumption)))
local macro_rules | `(tactic| walk_at "SQL0") => `(tactic| (first | with_reducible assumption | exact SqL.of (by with_reducible assumption)))
local macro_rules | `(tactic| walk_at "SAT0") => `(tactic| (with_reducible assumption))
local macro_rules | `(tactic| walk_at "SAME0") => `(tactic| (first | with_reducible assumption | exact AH.refl _))
local macro_rules | `(tactic| walk_at "SQT1") => `(tactic| (first | with_reducible assumption | exact SqT.of (by with_reducible assumption) | exact AH.tup (by with_reducible assumption) (by walk_at "SQT0")))
local macro_rules | `(tactic| walk_at "SQL1") => `(tactic| (first | with_reducible assumption | exact SqL.of (by with_reducible assumption) | exact AH.seq (by with_reducible assumption) (by walk_at "SQL0")))
local macro_rules | `(tactic| walk_at "SAT1") => `(tactic| (first | with_reducible assumption | exact AH.get (by with_reducible assumption) (by walk_at "SAT0")))
local macro_rules | `(tactic| walk_at "SAME1") => `(tactic| (first | with_reducible assumption | exact AH.refl _ | exact AH.trans (by with_reducible assumption) (by walk_at "SAME0")))
local macro_rules | `(tactic| walk_at "SQT2") => `(tactic| (first | with_reducible assumption | exact SqT.of (by with_reducible assumption) | exact AH.tup (by with_reducible assumption) (by walk_at "SQT1")))
local macro_rules | `(tactic| walk_at "SQL2") => `(tactic| (first | with_reducible assumption | exact SqL.of (by with_reducible assumption) | exact AH.seq (by with_reducible assumption) (by walk_at "SQL1")))
local macro_rules | `(tactic| walk_at "SAT2") => `(tactic| (first | with_reducible assumption | exact AH.get (by with_reducible assumption) (by walk_at "SAT1")))
local macro_rules | `(tactic| walk_at "SAME2") => `(tactic| (first | with_reducible assumption | exact AH.refl _ | exact AH.trans (by with_reducible assumption) (by walk_at "SAME1")))
local macro_rules | `(tactic| walk_at "SQT3") => `(tactic| (first | with_reducible assumption | exact SqT.of (by with_reducible assumption) | exact AH.tup (by with_reducible assumption) (by walk_at "SQT2")))
local macro_rules | `(tactic| walk_at "SQL3") => `(tactic| (first | with_reducible assumption | exact SqL.of (by with_reducible assumption) | exact AH.seq (by with_reducible assumption) (by walk_at "SQL2")))
local macro_rules | `(tactic| walk_at "SAT3") => `(tactic| (first | with_reducible assumption | exact AH.get (by with_reducible assumption) (by walk_at "SAT2")))
local macro_rules | `(tactic| walk_at "SAME3") => `(tactic| (first | with_reducible assumption | exact AH.refl _ | exact AH.trans (by with_reducible assumption) (by walk_at "SAME2")))
local macro_rules | `(tactic| walk_at "SQT4") => `(tactic| (first | with_reducible assumption | exact SqT.of (by with_reducible assumption) | exact AH.tup (by with_reducible assumption) (by walk_at "SQT3")))
local macro_rules | `(tactic| walk_at "SQL4") => `(tactic| (first | with_reducible assumption | exact SqL.of (by with_reducible assumption) | exact AH.seq (by with_reducible assumption) (by walk_at "SQL3")))
local macro_rules | `(tactic| walk_at "SAT4") => `(tactic| (first | with_reducible assumption | exact AH.get (by with_reducible assumption) (by walk_at "SAT3")))
local macro_rules | `(tactic| walk_at "SAME4") => `(tactic| (first | with_reducible assumption | exact AH.refl _ | exact AH.trans (by with_reducible assumption) (by walk_at "SAME3")))
local macro_rules | `(tactic| walk_at "SQT5") => `(tactic| (first | with_reducible assumption | exact SqT.of (by with_reducible assumption) | exact AH.tup (by with_reducible assumption) (by walk_at "SQT4")))
local macro_rules | `(tactic| walk_at "SQL5") => `(tactic| (first | with_reducible assumption | exact SqL.of (by with_reducible assumption) | exact AH.seq (by with_reducible assumption) (by walk_at "SQL4")))
local macro_rules | `(tactic| walk_at "SAT5") => `(tactic| (first | with_reducible assumption | exact AH.get (by with_reducible assumption) (by walk_at "SAT4")))
local macro_rules | `(tactic| walk_at "SAME5") => `(tactic| (first | with_reducible assumption | exact AH.refl _ | exact AH.trans (by with_reducible assumption) (by walk_at "SAME4")))
local macro_rules | `(tactic| walk_at "SQT6") => `(tactic| (first | with_reducible assumption | exact SqT.of (by with_reducible assumption) | exact AH.tup (by with_reducible assumption) (by walk_at "SQT5")))
local macro_rules | `(tactic| walk_at "SQL6") => `(tactic| (first | with_reducible assumption | exact SqL.of (by with_reducible assumption) | exact AH.seq (by with_reducible assumption) (by walk_at "SQL5")))
local macro_rules | `(tactic| walk_at "SAT6") => `(tactic| (first | with_reducible assumption | exact AH.get (by with_reducible assumption) (by walk_at "SAT5")))
local macro_rules | `(tactic| walk_at "SAME6") => `(tactic| (first | with_reducible assumption | exact AH.refl _ | exact AH.trans (by with_reducible assumption) (by walk_at "SAME5")))
local macro_rules | `(tactic| walk_at "SQT7") => `(tactic| (first | with_reducible assumption | exact SqT.of (by with_reducible assumption) | exact AH.tup (by with_reducible assumption) (by walk_at "SQT6")))
local macro_rules | `(tactic| walk_at "SQL7") => `(tactic| (first | with_reducible assumption | exact SqL.of (by with_reducible assumption) | exact AH.seq (by with_reducible assumption) (by walk_at "SQL6")))
local macro_rules | `(tactic| walk_at "SAT7") => `(tactic| (first | with_reducible assumption | exact AH.get (by with_reducible assumption) (by walk_at "SAT6")))
local macro_rules | `(tactic| walk_at "SAME7") => `(tactic| (first | with_reducible assumption | exact AH.refl _ | exact AH.trans (by with_reducible assumption) (by walk_at "SAME6")))
local macro_rules | `(tactic| walk_at "SQT8") => `(tactic| (first | with_reducible assumption | exact SqT.of (by with_reducible assumption) | exact AH.tup (by with_reducible assumption) (by walk_at "SQT7")))
local macro_rules | `(tactic| walk_at "SQL8") => `(tactic| (first | with_reducible assumption | exact SqL.of (by with_reducible assumption) | exact AH.seq (by with_reducible assumption) (by walk_at "SQL7")))
local macro_rules | `(tactic| walk_at "SAT8") => `(tactic| (first | with_reducible assumption | exact AH.get (by with_reducible assumption) (by walk_at "SAT7")))
local macro_rules | `(tactic| walk_at "SAME8") => `(tactic| (first | with_reducible assumption | exact AH.refl _ | exact AH.trans (by with_reducible assumption) (by walk_at "SAME7")))
local macro_rules | `(tactic| walk_at "SQT9") => `(tactic| (first | with_reducible assumption | exact SqT.of (by with_reducible assumption) | exact AH.tup (by with_reducible assumption) (by walk_at "SQT8")))
local macro_rules | `(tactic| walk_at "SQL9") => `(tactic| (first | with_reducible assumption | exact SqL.of (by with_reducible assumption) | exact AH.seq (by with_reducible assumption) (by walk_at "SQL8")))
local macro_rules | `(tactic| walk_at "SAT9") => `(tactic| (first | with_reducible assumption | exact AH.get (by with_reducible assumption) (by walk_at "SAT8")))
local macro_rules | `(tactic| walk_at "SAME9") => `(tactic| (first | with_reducible assumption | exact AH.refl _ | exact AH.trans (by with_reducible assumption) (by walk_at "SAME8")))
local macro_rules | `(tactic| walk_at "RD") => `(tactic| (first | (dsimp only [OJ, Lz, O5, Mj, Kl, Ou, Qq, MN, LK, EO, Mi, Ji, Hb, tOp, tUn, KN, tC, Ff, HN, KQ, Fe, tCB, G8, G9, rI, rI0, rU, rEq, rNe, MG, MA, tOr, Gv, Nj, HL, tB, tIf, Lm, LU, Gk, C7, CS, Du, NI, NY, G1, EA, Dx, MB, C6, G7, JC, EQ, JV, Ll, Gg, CT, Fz, G5, HM, Dt, Gc, tSl, MH, CV, Gh, MI, Gj, rIn, Ls, Fb, Ho, Ek, E1, Ni, FW, Ly, En, Hx, Gx, Gz, IN, L2.start, if_true, if_false, List.map_cons, List.map_nil, List.length_cons, List.length_nil, List.cons_append, List.nil_append, List.replicate, List.set_cons_zero, List.set_cons_succ, List.getElem?_cons_zero, List.getElem?_cons_succ, Nat.reduceAdd, Nat.reduceSub, Int.reduceToNat, Int.reduceNeg, Int.reduceMul, Int.reduceAdd, Int.reduceSub]; (try simp only [OJ, Lz, O5, Mj, Kl, Ou, Qq, MN, LK, EO, Mi, Ji, Hb, tOp, tUn, KN, tC, Ff, HN, KQ, Fe, tCB, G8, G9, rI, rI0, rU, rEq, rNe, N7, MG, MA, tOr, Gv, Nj, HL, tB, tIf, Lm, LU, Qr, O7, NE, Gk, C7, CS, Du, NI, NY, G1, EA, Dx, MB, C6, G7, JC, EQ, JV, Ll, Gg, CT, Fz, G5, HM, Dt, Gc, tSl, MH, CV, Gh, MI, Gj, rIn, Ls, Fb, Ho, Ek, E1, Ni, FW, Ly, En, Hx, Gx, Gz, IN, L2.start, cxK, exists_and_right, and_assoc, Int.reduceLE, Int.reduceLT, Nat.reduceLT, Nat.reducePow, Int.reducePow, JK, My, false_and, exists_false, and_false, if_true, if_false, decide_true, decide_false, Bool.false_eq_true, Bool.not_true, Bool.not_false, List.map_cons, List.map_nil, List.length_cons, List.length_nil, List.cons_append, List.nil_append, List.append_nil, List.replicate, List.set_cons_zero, List.set_cons_succ, List.getElem?_cons_zero, List.getElem?_cons_succ, Option.some.injEq, V.int.injEq, V.bl.injEq, V.ref.injEq, V.ty.injEq, V.str.injEq, List.cons.injEq, exists_eq_left', exists_and_left, exists_eq_left, true_and, and_true, true_or, or_true, Nat.reduceAdd, Nat.reduceSub, Int.reduceToNat, Int.reduceNeg, Int.reduceMul, Int.reduceAdd, Int.reduceSub, Bool.not_eq_true, Bool.not_not, forall_const])) | simp only [OJ, Lz, O5, Mj, Kl, Ou, Qq, MN, LK, EO, Mi, Ji, Hb, tOp, tUn, KN, tC, Ff, HN, KQ, Fe, tCB, G8, G9, rI, rI0, rU, rEq, rNe, N7, MG, MA, tOr, Gv, Nj, HL, tB, tIf, Lm, LU, Qr, O7, NE, Gk, C7, CS, Du, NI, NY, G1, EA, Dx, MB, C6, G7, JC, EQ, JV, Ll, Gg, CT, Fz, G5, HM, Dt, Gc, tSl, MH, CV, Gh, MI, Gj, rIn, Ls, Fb, Ho, Ek, E1, Ni, FW, Ly, En, Hx, Gx, Gz, IN, L2.start, cxK, exists_and_right, and_assoc, Int.reduceLE, Int.reduceLT, Nat.reduceLT, Nat.reducePow, Int.reducePow, JK, My, false_and, exists_false, and_false, if_true, if_false, decide_true, decide_false, Bool.false_eq_true, Bool.not_true, Bool.not_false, List.map_cons, List.map_nil, List.length_cons, List.length_nil, List.cons_append, List.nil_append, List.append_nil, List.replicate, List.set_cons_zero, List.set_cons_succ, List.getElem?_cons_zero, List.getElem?_cons_succ, Option.some.injEq, V.int.injEq, V.bl.injEq, V.ref.injEq, V.ty.injEq, V.str.injEq, List.cons.injEq, exists_eq_left', exists_and_left, exists_eq_left, true_and, and_true, true_or, or_true, Nat.reduceAdd, Nat.reduceSub, Int.reduceToNat, Int.reduceNeg, Int.reduceMul, Int.reduceAdd, Int.reduceSub, Bool.not_eq_true, Bool.not_not, forall_const]))
local macro_rules | `(tactic| walk_at "RDE") => `(tactic| (first | (dsimp only [tOp, tUn, KN, tC, Ff, HN, KQ, Fe, tCB, G8, G9, rI, rI0, rU, rEq, rNe, MG, MA, tOr, Gv, Nj, HL, tB, tIf, Lm, LU, Gk, C7, CS, Du, NI, NY, G1, EA, Dx, MB, C6, G7, JC, EQ, JV, Ll, Gg, CT, Fz, G5, HM, Dt, Gc, tSl, MH, CV, Gh, MI, Gj, rIn, Ls, Fb, Ho, Ek, E1, Ni, FW, Ly, En, Hx, Gx, Gz, IN, L2.start, if_true, if_false, List.map_cons, List.map_nil, List.length_cons, List.length_nil, List.cons_append, List.nil_append, List.replicate, List.set_cons_zero, List.set_cons_succ, List.getElem?_cons_zero, List.getElem?_cons_succ, Nat.reduceAdd, Nat.reduceSub, Int.reduceToNat, Int.reduceNeg, Int.reduceMul, Int.reduceAdd, Int.reduceSub]; (try simp only [tOp, tUn, KN, tC, Ff, HN, KQ, Fe, tCB, G8, G9, rI, rI0, rU, rEq, rNe, N7, MG, MA, tOr, Gv, Nj, HL, tB, tIf, Lm, LU, Qr, O7, NE, Gk, C7, CS, Du, NI, NY, G1, EA, Dx, MB, C6, G7, JC, EQ, JV, Ll, Gg, CT, Fz, G5, HM, Dt, Gc, tSl, MH, CV, Gh, MI, Gj, rIn, Ls, Fb, Ho, Ek, E1, Ni, FW, Ly, En, Hx, Gx, Gz, IN, L2.start, cxK, exists_and_right, and_assoc, Int.reduceLE, Int.reduceLT, Nat.reduceLT, Nat.reducePow, Int.reducePow, JK, My, false_and, exists_false, and_false, if_true, if_false, decide_true, decide_false, Bool.false_eq_true, Bool.not_true, Bool.not_false, List.map_cons, List.map_nil, List.length_cons, List.length_nil, List.cons_append, List.nil_append, List.append_nil, List.replicate, List.set_cons_zero, List.set_cons_succ, List.getElem?_cons_zero, List.getElem?_cons_succ, Option.some.injEq, V.int.injEq, V.bl.injEq, V.ref.injEq, V.ty.injEq, V.str.injEq, List.cons.injEq, exists_eq_left', exists_and_left, exists_eq_left, true_and, and_true, true_or, or_true, Nat.reduceAdd, Nat.reduceSub, Int.reduceToNat, Int.reduceNeg, Int.reduceMul, Int.reduceAdd, Int.reduceSub, Bool.not_eq_true, Bool.not_not, forall_const])) | simp only [tOp, tUn, KN, tC, Ff, HN, KQ, Fe, tCB, G8, G9, rI, rI0, rU, rEq, rNe, N7, MG, MA, tOr, Gv, Nj, HL, tB, tIf, Lm, LU, Qr, O7, NE, Gk, C7, CS, Du, NI, NY, G1, EA, Dx, MB, C6, G7, JC, EQ, JV, Ll, Gg, CT, Fz, G5, HM, Dt, Gc, tSl, MH, CV, Gh, MI, Gj, rIn, Ls, Fb, Ho, Ek, E1, Ni, FW, Ly, En, Hx, Gx, Gz, IN, L2.start, cxK, exists_and_right, and_assoc, Int.reduceLE, Int.reduceLT, Nat.reduceLT, Nat.reducePow, Int.reducePow, JK, My, false_and, exists_false, and_false, if_true, if_false, decide_true, decide_false, Bool.false_eq_true, Bool.not_true, Bool.not_false, List.map_cons, List.map_nil, List.length_cons, List.length_nil, List.cons_append, List.nil_append, List.append_nil, List.replicate, List.set_cons_zero, List.set_cons_succ, List.getElem?_cons_zero, List.getElem?_cons_succ, Option.some.injEq, V.int.injEq, V.bl.injEq, V.ref.injEq, V.ty.injEq, V.str.injEq, List.cons.injEq, exists_eq_left', exists_and_left, exists_eq_left, true_and, and_true, true_or, or_true, Nat.reduceAdd, Nat.reduceSub, Int.reduceToNat, Int.reduceNeg, Int.reduceMul, Int.reduceAdd, Int.reduceSub, Bool.not_eq_true, Bool.not_not, forall_const]))
local macro_rules | `(tactic| walk_at "STEP") => `(tactic| ((first | (with_reducible refine ⟨_, rfl, ?_⟩) | (with_reducible apply Ir; · exact rfl) | (with_reducible apply Ir; · (walk_at "SQT6")) | (with_reducible apply Ir; · (walk_at "SQL6")) | (with_reducible apply Ir; · (walk_at "SAT6")) | (with_reducible apply Ir; · exact SG (by omega) (by omega)) | (with_reducible apply exOrL; · (walk_at "SQL6")) | (with_reducible apply exOrR; · (walk_at "SQT6")) | (with_reducible apply Ir; · exact CJ.tup (by walk_at "SAT6")) | (with_reducible apply Ir; · exact CJ.lst (by walk_at "SAT6")) | (with_reducible apply Ir; · exact CJ.int _) | (with_reducible apply Ir; · exact CJ.str _) | (with_reducible apply And.intro; · (first | exact rfl | decide | with_reducible assumption | omega | exact ⟨_, rfl⟩ | exact ⟨_, (by walk_at "SQL6")⟩ | exact ⟨_, (by walk_at "SQT6")⟩ | exact ⟨_, (by walk_at "SAT6")⟩ | (simp only [List.length_map, List.length_append, List.length_cons, List.length_nil, PySem.sizeLine_eq]; omega) | first | with_reducible assumption | exact Sm.of (n := 10 ^ 120) (by omega) (by decide +kernel))) | (with_reducible intro p H' hn hs he; (have ck := Ti hs); clear ck) | (with_reducible apply Ut; · (first | decide | (simp; done) | (simp; omega))) | (with_reducible apply VO; · (first | decide | (simp; done) | (simp; omega))))))
local macro_rules | `(tactic| walk_at "AUTO") => `(tactic| (repeat walk_at "STEP"))
local macro_rules | `(tactic| delta $ids*) => do
  let ls ← ids.mapM fun i => `(Lean.Parser.Tactic.simpLemma| $i:ident)
  `(tactic| first | (dsimp only [OJ, Lz, O5, Mj, Kl, Ou, Qq, MN, LK, EO, Mi, Ji, Hb, tOp, tUn, KN, tC, Ff, HN, KQ, Fe, tCB, G8, G9, rI, rI0, rU, rEq, rNe, MG, MA, tOr, Gv, Nj, HL, tB, tIf, Lm, LU, Gk, C7, CS, Du, NI, NY, G1, EA, Dx, MB, C6, G7, JC, EQ, JV, Ll, Gg, CT, Fz, G5, HM, Dt, Gc, tSl, MH, CV, Gh, MI, Gj, rIn, Ls, Fb, Ho, Ek, E1, Ni, FW, Ly, En, Hx, Gx, Gz, IN, L2.start, if_true, if_false, List.map_cons, List.map_nil, List.length_cons, List.length_nil, List.cons_append, List.nil_append, List.replicate, List.set_cons_zero, List.set_cons_succ, List.getElem?_cons_zero, List.getElem?_cons_succ, Nat.reduceAdd, Nat.reduceSub, Int.reduceToNat, Int.reduceNeg, Int.reduceMul, Int.reduceAdd, Int.reduceSub, $ls,*]; (try simp only [OJ, Lz, O5, Mj, Kl, Ou, Qq, MN, LK, EO, Mi, Ji, Hb, tOp, tUn, KN, tC, Ff, HN, KQ, Fe, tCB, G8, G9, rI, rI0, rU, rEq, rNe, N7, MG, MA, tOr, Gv, Nj, HL, tB, tIf, Lm, LU, Qr, O7, NE, Gk, C7, CS, Du, NI, NY, G1, EA, Dx, MB, C6, G7, JC, EQ, JV, Ll, Gg, CT, Fz, G5, HM, Dt, Gc, tSl, MH, CV, Gh, MI, Gj, rIn, Ls, Fb, Ho, Ek, E1, Ni, FW, Ly, En, Hx, Gx, Gz, IN, L2.start, cxK, exists_and_right, and_assoc, Int.reduceLE, Int.reduceLT, Nat.reduceLT, Nat.reducePow, Int.reducePow, JK, My, false_and, exists_false, and_false, if_true, if_false, decide_true, decide_false, Bool.false_eq_true, Bool.not_true, Bool.not_false, List.map_cons, List.map_nil, List.length_cons, List.length_nil, List.cons_append, List.nil_append, List.append_nil, List.replicate, List.set_cons_zero, List.set_cons_succ, List.getElem?_cons_zero, List.getElem?_cons_succ, Option.some.injEq, V.int.injEq, V.bl.injEq, V.ref.injEq, V.ty.injEq, V.str.injEq, List.cons.injEq, exists_eq_left', exists_and_left, exists_eq_left, true_and, and_true, true_or, or_true, Nat.reduceAdd, Nat.reduceSub, Int.reduceToNat, Int.reduceNeg, Int.reduceMul, Int.reduceAdd, Int.reduceSub, Bool.not_eq_true, Bool.not_not, forall_const, $ls,*])) | simp only [OJ, Lz, O5, Mj, Kl, Ou, Qq, MN, LK, EO, Mi, Ji, Hb, tOp, tUn, KN, tC, Ff, HN, KQ, Fe, tCB, G8, G9, rI, rI0, rU, rEq, rNe, N7, MG, MA, tOr, Gv, Nj, HL, tB, tIf, Lm, LU, Qr, O7, NE, Gk, C7, CS, Du, NI, NY, G1, EA, Dx, MB, C6, G7, JC, EQ, JV, Ll, Gg, CT, Fz, G5, HM, Dt, Gc, tSl, MH, CV, Gh, MI, Gj, rIn, Ls, Fb, Ho, Ek, E1, Ni, FW, Ly, En, Hx, Gx, Gz, IN, L2.start, cxK, exists_and_right, and_assoc, Int.reduceLE, Int.reduceLT, Nat.reduceLT, Nat.reducePow, Int.reducePow, JK, My, false_and, exists_false, and_false, if_true, if_false, decide_true, decide_false, Bool.false_eq_true, Bool.not_true, Bool.not_false, List.map_cons, List.map_nil, List.length_cons, List.length_nil, List.cons_append, List.nil_append, List.append_nil, List.replicate, List.set_cons_zero, List.set_cons_succ, List.getElem?_cons_zero, List.getElem?_cons_succ, Option.some.injEq, V.int.injEq, V.bl.injEq, V.ref.injEq, V.ty.injEq, V.str.injEq, List.cons.injEq, exists_eq_left', exists_and_left, exists_eq_left, true_and, and_true, true_or, or_true, Nat.reduceAdd, Nat.reduceSub, Int.reduceToNat, Int.reduceNeg, Int.reduceMul, Int.reduceAdd, Int.reduceSub, Bool.not_eq_true, Bool.not_not, forall_const, $ls,*])
def top (i : Nat) : Stmt := PySem.Challenge.pw_throwgate_k28_own_lists.main.body.getD i (.Pass ⟨0, 0, 0, 0⟩)
abbrev DV : Stmt := top 20
abbrev JB : Stmt := top 21
abbrev Dz : Stmt := top 22
abbrev Bt : Stmt := top 24
abbrev Kv : Stmt := top 25
abbrev Jh : Stmt := top 26
abbrev GI : Stmt := top 28
abbrev JD : Stmt := top 29
abbrev LB : Stmt := top 30
abbrev Eo : Stmt := top 32
abbrev Co : Stmt := top 33
abbrev DA : Stmt := top 34
abbrev Cr : Stmt := top 35
abbrev CQ : Stmt := top 36
abbrev D8 : Stmt := top 37
abbrev DE : Stmt := top 38
abbrev Hc : Stmt := top 39
abbrev Ck : Stmt := top 40
abbrev CF : Stmt := top 41
abbrev Ds : Stmt := top 42
abbrev DL : Stmt := top 43
abbrev CP : Stmt := top 44
abbrev HR : Stmt := top 46
abbrev Dr : Stmt := top 47
abbrev DI : Stmt := top 49
abbrev Er : Stmt := top 50
abbrev Ev : Stmt := top 52
abbrev DQ : Stmt := top 53
abbrev Dw : Stmt := top 54
abbrev E4 : Stmt := BN (top 55) 0
abbrev CI : Stmt := BN (top 55) 1
abbrev Ce : Stmt := BN (top 55) 2
abbrev Cm : Stmt := BN (top 55) 3
abbrev Fw : Stmt := BN (top 55) 4
abbrev D7 : Stmt := BN (top 55) 9
abbrev EE : Stmt := BN (top 55) 10
abbrev CM : Stmt := BN (top 55) 11
abbrev BZ : Stmt := BN (top 55) 12
abbrev Cp : Stmt := BN (top 55) 13
abbrev CK : Stmt := BN (top 55) 14
abbrev CG : Stmt := BN (top 55) 15
abbrev Em : Stmt := BN (top 55) 16
abbrev E5 : Stmt := BN (top 55) 17
abbrev DK : Stmt := BN (top 55) 18
abbrev PV : Stmt := top 57
abbrev Ha : Stmt := top 58
abbrev GL : Stmt := top 59
abbrev JE : Stmt := top 60
abbrev Jl : Stmt := top 61
abbrev Fc : Stmt := top 62
abbrev K5 : Stmt := top 63
abbrev LG : Stmt := top 64
abbrev Kx : Stmt := top 65
abbrev LL : Stmt := top 66
abbrev Pj : Stmt := top 67
abbrev Hh : Pos := ⟨177, 26, 177, 51⟩
abbrev PK : Str := (("most_gates" : Str) ++ ".<locals>.") ++ "<lambda>"
abbrev DW : Addr := 325
abbrev qv : Program := { PySem.Challenge.pw_throwgate_k28_own_lists with main := { PySem.Challenge.pw_throwgate_k28_own_lists.main with body := [Pj] } }
def Vy : List Str := [Str.ofString "_wall", Str.ofString "LEAST", Str.ofString "GREATEST", Str.ofString "MOST_GATES", Str.ofString "MOST_DEEDS", Str.ofString "SMALL_BEACH", Str.ofString "GREAT_NUMBER", Str.ofString "BeachError"]
def Vq : List Str := [Str.ofString "NoGate", Str.ofString "Taken", Str.ofString "UpsideDown", Str.ofString "OutOfBounds", Str.ofString "BeachFull", Str.ofString "DeedsFull", Str.ofString "BadList", Str.ofString "TooFew"]
def Vh : List Str := [Str.ofString "WrongSize", Str.ofString "BadThrow", Str.ofString "side_of_line", Str.ofString "barring", Str.ofString "first_three", Str.ofString "greatest_divisor", Str.ofString "lowest", Str.ofString "compare"]
def T0 : List Str := [Str.ofString "height_at", Str.ofString "line_by", Str.ofString "passes", Str.ofString "passes_all", Str.ofString "places_passed", Str.ofString "foot_to_head", Str.ofString "tightest_pair", Str.ofString "steepest_found"]
def Ue : List Str := [Str.ofString "level_throw", Str.ofString "common_throw", Str.ofString "bar_told", Str.ofString "throw_through", Str.ofString "steepest_throw", Str.ofString "turned_over", Str.ofString "turned_throw", Str.ofString "flattest_throw"]
def WB : List Str := [Str.ofString "run_told", Str.ofString "fewest_runs", Str.ofString "tried_throws", Str.ofString "most_gates", Str.ofString "check_gate", Str.ofString "check_places", Str.ofString "check_throw", Str.ofString "Beach"]
def VF : List Str := [Str.ofString "_law_at", Str.ofString "_law_spread", Str.ofString "_law_heights", Str.ofString "_law_gates", Str.ofString "_law_whole", Str.ofString "_law_numbers", Str.ofString "_law_rows", Str.ofString "_law_list"]
def Vs : List Str := [Str.ofString "_law_same", Str.ofString "_law_told"]
def Jm : List Str := Vy ++ Vq ++ Vh ++ T0 ++ Ue ++ WB ++ VF ++ Vs
def addrs : List Addr := [4, 2, 3, 15, 17, 18, 20, 21, 22, 29, 30, 31, 32, 35, 42, 43, 44, 47, 54, 55, 56, 59, 66, 67, 68, 71, 78, 79, 80, 83, 90, 91, 92, 95, 102, 103, 104, 107, 114, 115, 116, 119, 126, 127, 128, 131, 138, 139, 140, 143, 150, 151, 152, 155, 157, 158, 160, 161, 162, 164, 165, 167, 168, 169, 171, 172, 174, 175, 176, 178, 179, 181, 182, 183, 185, 186, 188, 189, 190, 192, 193, 195, 196, 197, 199, 200, 202, 203, 204, 206, 207, 209, 210, 211, 213, 214, 216, 217, 218, 221, 222, 223, 226, 227, 228, 230, 231, 233, 234, 235, 237, 238, 240, 241, 242, 244, 245, 247, 248, 249, 251, 252, 254, 255, 256, 258, 259, 261, 262, 263, 265, 266, 268, 269, 270, 272, 273, 275, 276, 277, 279, 280, 282, 283, 284, 286, 287, 289, 290, 291, 293, 294, 296, 297, 298, 301, 302, 303, 305, 306, 308, 309, 310, 312, 313, 315, 316, 317, 319, 320, 322, 323, 324, 327, 328, 329, 331, 332, 334, 335, 336, 338, 339, 341, 342, 343, 345, 346, 348, 349, 357, 359, 360, 362, 363, 364, 367, 368, 369, 371, 372, 374, 375, 376, 379, 380, 381, 383, 384, 386, 387, 388, 390, 391, 393, 394, 395, 397, 398, 400, 401, 402, 404, 405, 407, 408, 409, 410, 412, 413, 415, 416, 417, 419, 420, 422, 423, 424, 426, 427, 429, 430, 431, 434, 435, 436, 438, 439, 441, 442, 443, 445, 446, 448, 449, 450, 452, 453, 455, 456, 457, 459, 460, 462, 463, 464, 466, 467, 469, 470, 471, 473, 474, 476, 477, 478, 480, 481, 483, 484, 485, 486, 487, 488, 489, 492, 494, 495, 497, 498, 499, 501, 502, 504, 505, 506, 508, 509, 511, 512, 513, 515, 516, 518, 519, 520, 522, 523, 525, 526, 527, 529, 530, 532, 533, 534, 536, 537, 539, 540, 541, 543, 544, 546, 547, 548, 550, 551, 553, 554, 555, 557, 558, 560, 561, 562, 565, 566]
def obs0 (K : PySem.W.Frag) : List (Bool) := [Tq K "Beach" ["standing", "past"], JA K "BeachError", JA K "NoGate", JA K "Taken", JA K "UpsideDown", JA K "OutOfBounds", JA K "BeachFull", JA K "DeedsFull"]
def val0 : List (Bool) := [true, true, true, true, true, true, true, true]
def obs1 (K : PySem.W.Frag) : List (Bool) := [JA K "BadList", JA K "TooFew", JA K "WrongSize", JA K "BadThrow", LM.U2 K "most_gates" DW, GJ K "abs", GJ K "all", GJ K "bool"]
def val1 : List (Bool) := [true, true, true, true, true, true, true, true]
def obs2 (K : PySem.W.Frag) : List (Bool) := [GJ K "enumerate", GJ K "int", GJ K "isinstance", GJ K "len", GJ K "list", GJ K "max", GJ K "min", GJ K "range"]
def val2 : List (Bool) := [true, true, true, true, true, true, true, true]
def obs3 (K : PySem.W.Frag) : List (Bool) := [GJ K "set", GJ K "sorted", GJ K "str", GJ K "tuple"]
def val3 : List (Bool) := [true, true, true, true]
def obs4 (K : PySem.W.Frag) : List (Seen) := [BE K "side_of_line", BE K "barring", BE K "first_three", BE K "greatest_divisor", BE K "lowest", BE K "compare", BE K "height_at", BE K "line_by"]
def val4 : List (Seen) := [Am "side_of_line" "side_of_line" DV [], Am "barring" "barring" JB [], Am "first_three" "first_three" Dz [], Am "greatest_divisor" "greatest_divisor" Bt [], Am "lowest" "lowest" Kv [], Am "compare" "compare" Jh [], Am "height_at" "height_at" GI [], Am "line_by" "line_by" JD []]
def obs5 (K : PySem.W.Frag) : List (Seen) := [BE K "passes", BE K "passes_all", BE K "places_passed", BE K "foot_to_head", BE K "tightest_pair", BE K "steepest_found", BE K "level_throw", BE K "common_throw"]
def val5 : List (Seen) := [Am "passes" "passes" LB [], Am "passes_all" "passes_all" Eo [], Am "places_passed" "places_passed" Co [], Am "foot_to_head" "foot_to_head" DA [], Am "tightest_pair" "tightest_pair" Cr [], Am "steepest_found" "steepest_found" CQ [], Am "level_throw" "level_throw" D8 [], Am "common_throw" "common_throw" DE []]
def obs6 (K : PySem.W.Frag) : List (Seen) := [BE K "bar_told", BE K "throw_through", BE K "steepest_throw", BE K "turned_over", BE K "turned_throw", BE K "flattest_throw", BE K "run_told", BE K "fewest_runs"]
def val6 : List (Seen) := [Am "bar_told" "bar_told" Hc [], Am "throw_through" "throw_through" Ck [], Am "steepest_throw" "steepest_throw" CF [], Am "turned_over" "turned_over" Ds [], Am "turned_throw" "turned_throw" DL [], Am "flattest_throw" "flattest_throw" CP [], Am "run_told" "run_told" HR [], Am "fewest_runs" "fewest_runs" Dr []]
def obs7 (K : PySem.W.Frag) : List (Seen) := [BE K "tried_throws", BE K "most_gates", BE K "check_gate", BE K "check_places", BE K "check_throw", E2 K "Beach" "__init__" "Beach.__init__", E2 K "Beach" "has_gate" "Beach.has_gate", E2 K "Beach" "gate_at" "Beach.gate_at"]
def val7 : List (Seen) := [Am "tried_throws" "tried_throws" DI [], Am "most_gates" "most_gates" Er [], Am "check_gate" "check_gate" Ev [], Am "check_places" "check_places" DQ [], Am "check_throw" "check_throw" Dw [], Am "__init__" "Beach.__init__" E4 [], Am "has_gate" "Beach.has_gate" CI [], Am "gate_at" "Beach.gate_at" Ce []]
def obs8 (K : PySem.W.Frag) : List (Seen) := [E2 K "Beach" "do_deed" "Beach.do_deed", E2 K "Beach" "put" "Beach.put", E2 K "Beach" "gates" "Beach.gates", E2 K "Beach" "deeds" "Beach.deeds", E2 K "Beach" "gates_at" "Beach.gates_at", E2 K "Beach" "two_gates_at" "Beach.two_gates_at", E2 K "Beach" "through" "Beach.through", E2 K "Beach" "steepest" "Beach.steepest"]
def val8 : List (Seen) := [Am "do_deed" "Beach.do_deed" Cm [], Am "put" "Beach.put" Fw [], Am "gates" "Beach.gates" D7 [], Am "deeds" "Beach.deeds" EE [], Am "gates_at" "Beach.gates_at" CM [], Am "two_gates_at" "Beach.two_gates_at" BZ [], Am "through" "Beach.through" Cp [], Am "steepest" "Beach.steepest" CK []]
def obs9 (K : PySem.W.Frag) : List (Seen) := [E2 K "Beach" "flattest" "Beach.flattest", E2 K "Beach" "runs" "Beach.runs", E2 K "Beach" "most" "Beach.most", E2 K "Beach" "passed" "Beach.passed", BE K "_law_at", BE K "_law_spread", BE K "_law_heights", BE K "_law_gates"]
def val9 : List (Seen) := [Am "flattest" "Beach.flattest" CG [], Am "runs" "Beach.runs" Em [], Am "most" "Beach.most" E5 [], Am "passed" "Beach.passed" DK [], Am "_law_at" "_law_at" PV [], Am "_law_spread" "_law_spread" Ha [], Am "_law_heights" "_law_heights" GL [], Am "_law_gates" "_law_gates" JE []]
def obs10 (K : PySem.W.Frag) : List (Seen) := [BE K "_law_whole", BE K "_law_numbers", BE K "_law_rows", BE K "_law_list", BE K "_law_same", BE K "_law_told", BE K "law"]
def val10 : List (Seen) := [Am "_law_whole" "_law_whole" Jl [], Am "_law_numbers" "_law_numbers" Fc [], Am "_law_rows" "_law_rows" K5 [], Am "_law_list" "_law_list" LG [], Am "_law_same" "_law_same" Kx [], Am "_law_told" "_law_told" LL [], Am "law" "law" Pj []]
def obs11 (K : PySem.W.Frag) : List (Option Int) := [N8 K "LEAST", N8 K "GREATEST", N8 K "MOST_GATES", N8 K "MOST_DEEDS", N8 K "SMALL_BEACH", N8 K "GREAT_NUMBER"]
def val11 : List (Option Int) := [some (-1000), some (1000), some (40), some (300), some (12), some (999999999)]
def Om (K : PySem.W.Frag) : List (Bool) × List (Bool) × List (Bool) × List (Bool) × List (Seen) × List (Seen) × List (Seen) × List (Seen) × List (Seen) × List (Seen) × List (Seen) × List (Option Int) := (obs0 K, obs1 K, obs2 K, obs3 K, obs4 K, obs5 K, obs6 K, obs7 K, obs8 K, obs9 K, obs10 K, obs11 K)
def QW : List (Bool) × List (Bool) × List (Bool) × List (Bool) × List (Seen) × List (Seen) × List (Seen) × List (Seen) × List (Seen) × List (Seen) × List (Seen) × List (Option Int) := (val0, val1, val2, val3, val4, val5, val6, val7, val8, val9, val10, val11)
noncomputable def SM (w : World) (os : PySem.OsState) := JS PySem.Challenge.pw_throwgate_k28_own_lists qv Jm (fun _ => ()) 4566 w os
noncomputable def P7 := some (true, PySem.W.openGood qv Jm, ())
noncomputable def SX (w : World) (os : PySem.OsState) := Rt PySem.Challenge.pw_throwgate_k28_own_lists (fun s => (LM.Fq (O8 s.tree s.n DW), Om (Qf addrs s))) 4566 w os
noncomputable def Pe := some (true, QW)
theorem QZ : SM = SM := rfl
theorem PP : P7 = P7 := rfl
name_quick runAY for TG.SM by TG.QZ
name_quick goodAY for TG.P7 by TG.PP
theorem runA0 (w : World) (os : PySem.OsState) : PySem.W.Fast.runAY w os = PySem.W.Fast.goodAY := by kernel_rfl
theorem runA1 (w : World) (os : PySem.OsState) : SM w os = P7 := ((congrFun (congrFun PySem.W.Fast.runAY_eq w) os).trans (runA0 w os)).trans PySem.W.Fast.goodAY_eq.symm
theorem QN : SX = SX := rfl
theorem Oh : Pe = Pe := rfl
name_quick runBY for TG.SX by TG.QN
name_quick goodBY for TG.Pe by TG.Oh
theorem runB0 (w : World) (os : PySem.OsState) : PySem.W.Fast.runBY w os = PySem.W.Fast.goodBY := by kernel_rfl
theorem runB1 (w : World) (os : PySem.OsState) : SX w os = Pe := ((congrFun (congrFun PySem.W.Fast.runBY_eq w) os).trans (runB0 w os)).trans PySem.W.Fast.goodBY_eq.symm
theorem runs (w : World) (os : PySem.OsState) : JS PySem.Challenge.pw_throwgate_k28_own_lists qv Jm (fun s => (LM.Fq (O8 s.tree s.n DW), Om (Qf addrs s))) 4566 w os = some (true, PySem.W.openGood qv Jm, (true, QW)) := O4 (runA1 w os) (runB1 w os)
theorem SN : PySem.W.LeftO PySem.Challenge.pw_throwgate_k28_own_lists qv Jm (fun _ => true) (fun s => (LM.Fq (s.heap.get? DW), Om (Kof addrs s.heap))) (fun _ => (true, QW)) 9192 :=
 TK (M := 4566) (obs := fun s => (LM.Fq (O8 s.tree s.n DW), Om (Qf addrs s))) (by kernel_rfl) rfl (fun _ => rfl) rfl (fun s => LM.SJ s) runs
set_option genInjectivity false in
set_option genSizeOfSpec false in
structure Tx (K : PySem.W.Frag) (mg : Str → Option Value) where
 AT : Addr
 SU : mg "Beach" = some (.ref AT)
 AW : Cls K AT
 AX : Fg K AT "standing"
 Cz : Fg K AT "past"
 C8 : Addr
 TC : mg "BeachError" = some (.ref C8)
 S5 : FV K C8
 F3 : Addr
 RE : mg "NoGate" = some (.ref F3)
 RG : FV K F3
 Ih : Addr
 Si : mg "Taken" = some (.ref Ih)
 S8 : FV K Ih
 B8 : Addr
 NJ : mg "UpsideDown" = some (.ref B8)
 NW : FV K B8
 Bp : Addr
 Lu : mg "OutOfBounds" = some (.ref Bp)
 Lv : FV K Bp
 Cb : Addr
 Od : mg "BeachFull" = some (.ref Cb)
 N5 : FV K Cb
 Cc : Addr
 Nz : mg "DeedsFull" = some (.ref Cc)
 Np : FV K Cc
 Ee : Addr
 Jn : mg "BadList" = some (.ref Ee)
 Jf : FV K Ee
 GC : Addr
 Ru : mg "TooFew" = some (.ref GC)
 RH : FV K GC
 Ca : Addr
 OY : mg "WrongSize" = some (.ref Ca)
 OD : FV K Ca
 DO : Addr
 Kq : mg "BadThrow" = some (.ref DO)
 K7 : FV K DO
 Fu : Addr
 FD : FuncData
 DF : D K mg "side_of_line" DV ["place", "height", "start", "end"] Fu FD
 Mw : Addr
 Ks : FuncData
 M3 : D K mg "barring" JB ["one", "two", "three"] Mw Ks
 Gi : Addr
 GN : FuncData
 HG : D K mg "first_three" Dz ["gates"] Gi GN
 DD : Addr
 Cy : FuncData
 DJ : D K mg "greatest_divisor" Bt ["one", "two"] DD Cy
 Ob : Addr
 Mv : FuncData
 Hw : D K mg "lowest" Kv ["top", "bottom"] Ob Mv
 M8 : Addr
 Kk : FuncData
 GV : D K mg "compare" Jh ["one", "two"] M8 Kk
 J3 : Addr
 Hr : FuncData
 J2 : D K mg "height_at" GI ["throw", "place"] J3 Hr
 Mc : Addr
 Lj : FuncData
 Jb : D K mg "line_by" JD ["place", "height", "other", "second"] Mc Lj
 OI : Addr
 MW : FuncData
 Kd : D K mg "passes" LB ["throw", "gate"] OI MW
 Ia : Addr
 Gu : FuncData
 Il : D K mg "passes_all" Eo ["throw", "gates"] Ia Gu
 FA : Addr
 EH : FuncData
 Ct : D K mg "places_passed" Co ["throw", "ordered"] FA EH
 GB : Addr
 FM : FuncData
 DG : D K mg "foot_to_head" DA ["earlier", "later"] GB FM
 FC : Addr
 Ei : FuncData
 FQ : D K mg "tightest_pair" Cr ["ordered"] FC Ei
 EU : Addr
 Dj : FuncData
 Bi : D K mg "steepest_found" CQ ["ordered"] EU Dj
 HI : Addr
 Ft : FuncData
 Do : D K mg "level_throw" D8 ["height"] HI Ft
 F2 : Addr
 FH : FuncData
 Bc : D K mg "common_throw" DE ["ordered"] F2 FH
 LJ : Addr
 J6 : FuncData
 Ep : D K mg "bar_told" Hc ["gates"] LJ J6
 FF : Addr
 EN : FuncData
 FK : D K mg "throw_through" Ck ["gates"] FF EN
 ES : Addr
 Dg : FuncData
 EK : D K mg "steepest_throw" CF ["gates"] ES Dg
 Go : Addr
 Fp : FuncData
 Ge : D K mg "turned_over" Ds ["gate"] Go Fp
 Fj : Addr
 FE : FuncData
 Fi : D K mg "turned_throw" DL ["throw"] Fj FE
 EM : Addr
 DY : FuncData
 EY : D K mg "flattest_throw" CP ["gates"] EM DY
 LS : Addr
 J4 : FuncData
 Hi : D K mg "run_told" HR ["run", "throw"] LS J4
 HE : Addr
 Fs : FuncData
 HJ : D K mg "fewest_runs" Dr ["gates"] HE Fs
 Fk : Addr
 FP : FuncData
 Fo : D K mg "tried_throws" DI ["ordered"] Fk FP
 Iv : Addr
 Dy : FuncData
 Io : D K mg "most_gates" Er ["gates"] Iv Dy
 ND : Addr
 Lp : LM.N9 K mg Dy.code ND 325
 II : Addr
 Gr : FuncData
 Hq : D K mg "check_gate" Ev ["gate"] II Gr
 FX : Addr
 E8 : FuncData
 F6 : D K mg "check_places" DQ ["places"] FX E8
 Gn : Addr
 F8 : FuncData
 G4 : D K mg "check_throw" Dw ["throw"] Gn F8
 Ex : Addr
 Gf : FuncData
 Ie : DM K AT "__init__" "Beach.__init__" E4 ["self"] Ex Gf
 EJ : Addr
 Dl : FuncData
 CO : DM K AT "has_gate" "Beach.has_gate" CI ["self", "place"] EJ Dl
 FO : Addr
 EV : FuncData
 Cu : DM K AT "gate_at" "Beach.gate_at" Ce ["self", "place"] FO EV
 E9 : Addr
 Ef : FuncData
 Ch : DM K AT "do_deed" "Beach.do_deed" Cm ["self", "place", "instead"] E9 Ef
 J1 : Addr
 IY : FuncData
 GK : DM K AT "put" "Beach.put" Fw ["self", "place", "foot", "head"] J1 IY
 Gy : Addr
 GD : FuncData
 Dq : DM K AT "gates" "Beach.gates" D7 ["self"] Gy GD
 HF : Addr
 GH : FuncData
 D9 : DM K AT "deeds" "Beach.deeds" EE ["self"] HF GH
 Eh : Addr
 De : FuncData
 BJ : DM K AT "gates_at" "Beach.gates_at" CM ["self", "places"] Eh De
 CZ : Addr
 CA : FuncData
 Au : DM K AT "two_gates_at" "Beach.two_gates_at" BZ ["self", "places"] CZ CA
 FL : Addr
 Ej : FuncData
 Cj : DM K AT "through" "Beach.through" Cp ["self", "places"] FL Ej
 Ea : Addr
 Dh : FuncData
 CH : DM K AT "steepest" "Beach.steepest" CK ["self", "places"] Ea Dh
 EW : Addr
 Df : FuncData
 CL : DM K AT "flattest" "Beach.flattest" CG ["self", "places"] EW Df
 Hv : Addr
 HD : FuncData
 Ey : DM K AT "runs" "Beach.runs" Em ["self"] Hv HD
 IR : Addr
 G6 : FuncData
 Eu : DM K AT "most" "Beach.most" E5 ["self"] IR G6
 GA : Addr
 FR : FuncData
 DB : DM K AT "passed" "Beach.passed" DK ["self", "throw"] GA FR
 Qx : Addr
 Ps : FuncData
 JT : D K mg "_law_at" PV ["_law_script", "_law_k"] Qx Ps
 LZ : Addr
 Jz : FuncData
 El : D K mg "_law_spread" Ha ["_law_cell", "_law_many", "_law_mixed"] LZ Jz
 Jq : Addr
 Ix : FuncData
 Jv : D K mg "_law_heights" GL ["_law_kind", "_law_line", "_law_wide", "_law_low", "_law_high"] Jq Ix
 Ms : Addr
 LC : FuncData
 MX : D K mg "_law_gates" JE ["_law_script", "_law_at_here", "_law_many"] Ms LC
 Mt : Addr
 Li : FuncData
 GY : D K mg "_law_whole" Jl ["_law_found"] Mt Li
 Js : Addr
 Iq : FuncData
 J7 : D K mg "_law_numbers" Fc ["_law_found", "_law_due"] Js Iq
 Nr : Addr
 Mp : FuncData
 Oa : D K mg "_law_rows" K5 ["_law_found", "_law_due"] Nr Mp
 Of : Addr
 Mx : FuncData
 OQ : D K mg "_law_list" LG ["_law_found", "_law_due"] Of Mx
 FZ : Addr
 ET : FuncData
 Lf : D K mg "_law_same" Kx ["_law_one", "_law_two", "_law_deep"] FZ ET
 OS : Addr
 MT : FuncData
 LY : D K mg "_law_told" LL ["_law_beach", "_law_places", "_law_throw"] OS MT
 TQ : Addr
 Ra : FuncData
 d_law : D K mg "law" Pj ["_law_script"] TQ Ra
 Kt : Mk K AT Ex
 Pl : Value
 SQ : mg "LEAST" = some Pl
 Sk : RelV (.int (-1000)) Pl
 Kb : Value
 O9 : mg "GREATEST" = some Kb
 PF : RelV (.int (1000)) Kb
 ID : Value
 IQ : mg "MOST_GATES" = some ID
 IP : RelV (.int (40)) ID
 Hm : Value
 Ng : mg "MOST_DEEDS" = some Hm
 NA : RelV (.int (300)) Hm
 HK : Value
 L9 : mg "SMALL_BEACH" = some HK
 Lx : RelV (.int (12)) HK
 F9 : Value
 Fn : mg "GREAT_NUMBER" = some F9
 FY : RelV (.int (999999999)) F9
 TZ : mg "abs" = none
 z_all : mg "all" = none
 PD : mg "bool" = none
 J5 : mg "enumerate" = none
 Q8 : mg "int" = none
 Ac : mg "isinstance" = none
 Ay : mg "len" = none
 Bd : mg "list" = none
 Py : mg "max" = none
 TM : mg "min" = none
 B3 : mg "range" = none
 z_set : mg "set" = none
 CY : mg "sorted" = none
 Tg : mg "str" = none
 Ka : mg "tuple" = none
def Tx.err {K : PySem.W.Frag} {mg : Str → Option Value} (T : Tx K mg) : Err → Value
 | .nogate => .ref T.F3
 | .taken => .ref T.Ih
 | .upside => .ref T.B8
 | .bounds => .ref T.Bp
 | .full => .ref T.Cb
 | .deeds => .ref T.Cc
 | .badlist => .ref T.Ee
 | .few => .ref T.GC
 | .size => .ref T.Ca
 | .badthrow => .ref T.DO
 | _ => .none
section
variable {P : Program} {w : World} {K : PySem.W.Frag} {mg : Str → Option Value} {base : Heap}
theorem Ci : AN ["place", "height", "start", "end", "steps", "gain"] ["place", "height", "start", "end"] (AF DV) := by walk_at "SC"
def FI (K : PySem.W.Frag) : Sp := fun vs H Q _ => ∃ (s e : Addr) (pl h s0 s1 e0 e1 : Int), vs = [.int pl, .int h, .ref s, .ref e] ∧ SqT K H s [.int s0, .int s1] ∧ SqT K H e [.int e0, .int e1] ∧ pl.natAbs ≤ 1000 ∧ h.natAbs ≤ 1000 ∧ s0.natAbs ≤ 1000 ∧ s1.natAbs ≤ 1000 ∧ e0.natAbs ≤ 1000 ∧ e1.natAbs ≤ 1000 ∧ Q (.int ((h - s1) * (e0 - s0) - (e1 - s1) * (pl - s0))) H
theorem FT (T : Tx K mg) : Ah P w K mg base CX0 1 T.Fu T.FD ["place", "height", "start", "end"] (FI K) := by
 refine T.DF.F.ok Ci (fun vs H Q E h => ?_) (fun cdv A outer s H vs Q E hr h => ?_)
 ·obtain ⟨s, e, pl, h, s0, s1, e0, e1, rfl, hs, he, b1, b2, b3, b4, b5, b6, k⟩ := h
  rfl
 ·obtain ⟨s, e, pl, h, s0, s1, e0, e1, rfl, hs, he, b1, b2, b3, b4, b5, b6, k⟩ := h
  have hu := Ad hr
  refine ⟨_, (AD (pst 4 Ci (AK An (pxi AL (pv 3) AB) (pxi AL (pv 2) AB)))
   (AD (pst 5 Ci (AK An (pxi AL (pv 3) AB) (pxi AL (pv 2) AB)))
   (AE (AM (AK An (AK CW (AK An (pv 1) (pxi AL (pv 2) AB)) (pv 4)) (AK CW (pv 5) (AK An (pv 0) (pxi AL (pv 2) AB)))))))), ?_⟩
  walk_at "RD"
  walk_at "AUTO"
  exact k
theorem Ol : AN ["one", "two", "three"] ["one", "two", "three"] (AF JB) := by walk_at "SC"
def Kc (K : PySem.W.Frag) : Sp := fun vs H Q _ => ∃ (x y z : Addr) (a b c : G), vs = [.ref x, .ref y, .ref z] ∧ SqT K H x (G.vs a) ∧ SqT K H y (G.vs b) ∧ SqT K H z (G.vs c) ∧ OkG a ∧ OkG b ∧ OkG c ∧ a.p < b.p ∧ b.p < c.p ∧ ∀ H', AH H H' → Q (.str (S6 a b c)) H'
theorem Oo (T : Tx K mg) : Ah P w K mg base CX0 2 T.Mw T.Ks ["one", "two", "three"] (Kc K) := by
 refine T.M3.F.ok Ol (fun vs H Q E h => ?_) (fun cdv A outer s H vs Q E hr h => ?_)
 ·obtain ⟨x, y, z, a, b, c, rfl, ex, ey, ez, o1, o2, o3, l1, l2, k⟩ := h
  rfl
 ·obtain ⟨x, y, z, a, b, c, rfl, ex, ey, ez, o1, o2, o3, l1, l2, k⟩ := h
  have hu := Ad hr
  refine ⟨_, (AD (Af (ptc Jt (pcl T.DF (FT T) hr AV (AA (pxi AL (pv 1) AB) (AA (pxi AL (pv 1) AB) (AA (AZ (AA (pxi AL (pv 0) AB) (AA (pxi AL (pv 0) AB) AC))) (AA (AZ (AA (pxi AL (pv 2) AB) (AA (pxi AL (pv 2) AB) AC))) AC))))) AB) (AE (AM BD))
    AS)
   (AD (Af (ptc FN (pcl T.DF (FT T) hr AV (AA (pxi AL (pv 1) AB) (AA (pxi AL (pv 1) AB) (AA (AZ (AA (pxi AL (pv 0) AB) (AA (pxi AL (pv 0) AB) AC))) (AA (AZ (AA (pxi AL (pv 2) AB) (AA (pxi AL (pv 2) AB) AC))) AC))))) AB) (AE (AM BD))
    AS)
   (AE (AM BD)))), ?_⟩
  obtain ⟨p1, p2, p3, p4, p5⟩ := id o1
  obtain ⟨q1, q2, q3, q4, q5⟩ := id o2
  obtain ⟨r1, r2, r3, r4, r5⟩ := id o3
  have eF : (0 < (b.f - a.h) * (c.p - a.p) - (c.h - a.h) * (b.p - a.p)) ↔ Bf a b c := by
   unfold Bf
   have e : (b.f - a.h) * (c.p - a.p) - (c.h - a.h) * (b.p - a.p) = b.f * (c.p - a.p) - (a.h * (c.p - b.p) + c.h * (b.p - a.p)) := by grind
   rw [e]
   omega
  have eH : ((b.h - a.f) * (c.p - a.p) - (c.f - a.f) * (b.p - a.p) < 0) ↔ Bl a b c := by
   unfold Bl
   have e : (b.h - a.f) * (c.p - a.p) - (c.f - a.f) * (b.p - a.p) = b.h * (c.p - a.p) - (a.f * (c.p - b.p) + c.f * (b.p - a.p)) := by grind
   rw [e]
   omega
  walk_at "RD"
  walk_at "AUTO"
  unfold FI
  refine ⟨_, _, _, _, _, _, _, _, rfl, (by walk_at "SQT4"), (by walk_at "SQT4"), by omega, by omega, by omega, by omega, by omega, by omega, ?_⟩
  refine ⟨_, rfl, ?_⟩
  unfold S6 at k
  by_cases hf : Bf a b c
  ·rw [if_pos (decide_eq_true (eF.mpr hf))]
   rw [if_pos hf] at k
   exact k _ (by walk_at "SAME5")
  ·rw [if_neg (fun z => hf (eF.mp (of_decide_eq_true z)))]
   rw [if_neg hf] at k
   walk_at "AUTO"
   refine ⟨_, _, _, _, _, _, _, _, rfl, (by walk_at "SQT4"), (by walk_at "SQT4"), by omega, by omega, by omega, by omega, by omega, by omega, ?_⟩
   refine ⟨_, rfl, ?_⟩
   by_cases hh : Bl a b c
   ·rw [if_pos (decide_eq_true (eH.mpr hh))]
    rw [if_pos hh] at k
    exact k _ (by walk_at "SAME5")
   ·rw [if_neg (fun z => hh (eH.mp (of_decide_eq_true z)))]
    rw [if_neg hh] at k
    exact k _ (by walk_at "SAME5")
theorem BI : AN ["gates", "ordered", "count", "first", "middle", "last"] ["gates"] (AF Dz) := by walk_at "SC"
def Fm (K : PySem.W.Frag) : Sp := fun vs H Q _ => ∃ (l : Addr) (as : List Addr) (gs : List G), vs = [.ref l] ∧ SqL K H l (as.map V.ref) ∧ Ab H as gs ∧ (gs.map G.p).Nodup ∧ gs.length ≤ 40 ∧ (∀ g ∈ gs, OkG g) ∧ (∀ H', AH H H' → BX gs [] → Q .non H') ∧ ∀ D H' t, AH H H' → H' D = some (.tup (t.map V.int)) → t ≠ [] → BX gs t → Q (.ref D) H'
theorem OB {a b c : G} : S6 a b c = "" ↔ ¬ LR a b c := by
 unfold S6 LR
 by_cases hf : Bf a b c
 ·rw [if_pos hf]
  exact ⟨fun z => absurd z (by decide), fun z => absurd (.inl hf) z⟩
 ·rw [if_neg hf]
  by_cases hh : Bl a b c
  ·rw [if_pos hh]
   exact ⟨fun z => absurd z (by decide), fun z => absurd (.inr hh) z⟩
  ·rw [if_neg hh]
   exact ⟨fun _ z => z.elim hf hh, fun _ => rfl⟩
def Vf1 (l D : Addr) (n : Int) (sg : List G) (H : Hp) : Nat → St → Hp → Prop := fun i σ H' => ∃ x y z, σ = [some (.ref l), some (.ref D), some (.int n), x, y, z] ∧ AH H H' ∧ Ap sg i 0 0
def Vf2 (l D : Addr) (n : Int) (sg : List G) (H : Hp) (i : Nat) : Nat → St → Hp → Prop := fun t σ H' => ∃ y z, σ = [some (.ref l), some (.ref D), some (.int n), some (.int (0 + (i : Int))), y, z] ∧ AH H H' ∧ Ap sg i (i + 1 + t) 0
def Vf3 (l D : Addr) (n : Int) (sg : List G) (H : Hp) (i j : Nat) : Nat → St → Hp → Prop := fun t σ H' => ∃ z, σ = [some (.ref l), some (.ref D), some (.int n), some (.int (0 + (i : Int))), some (.int (0 + (i : Int) + 1 + (j : Int))), z] ∧ AH H H' ∧ Ap sg i (i + 1 + j) (i + 1 + j + 1 + t)
theorem Le (T : Tx K mg) : Ah P w K mg base CX0 3 T.Gi T.GN ["gates"] (Fm K) := by
 refine T.HG.F.ok BI (fun vs H Q E h => ?_) (fun cdv A outer s H vs Q E hr h => ?_)
 ·obtain ⟨l, as0, gs0, rfl, hl0, ga0, nd, h64, ok0, kn, kk⟩ := h
  rfl
 ·obtain ⟨l, as0, gs0, rfl, hl0, ga0, nd, h64, ok0, kn, kk⟩ := h
  have hu := Ad hr
  refine ⟨_, (AD (pst 1 BI (AJ A9 (by rfl) T.CY Bx (AA (pv 0) AC)))
   (AD (pst 2 BI (AJ AQ (by rfl) T.Ay Ao (AA (pv 1) AC)))
   (AD (BF PassesOwn.never rfl (Bm (by rfl) T.B3 (AA (pv 2) AC)) (pgn 3 BI)
    (AE (BF PassesOwn.never rfl (M5 (by rfl) T.B3 (AA (AK Al (pv 3) AB) (AA (pv 2) AC))) (pgn 4 BI)
      (AE (BF PassesOwn.never rfl (M5 (by rfl) T.B3 (AA (AK Al (pv 4) AB) (AA (pv 2) AC))) (pgn 5 BI)
        (AE (Af (ptc FB (pcl T.M3 (Oo T) hr AV (AA (pxi AR (pv 1) (pv 3)) (AA (pxi AR (pv 1) (pv 4)) (AA (pxi AR (pv 1) (pv 5)) AC)))) BD) (AE (AM (AZ (AA (pxi AL (pxi AR (pv 1) (pv 3)) AB) (AA (pxi AL (pxi AR (pv 1) (pv 4)) AB) (AA (pxi AL (pxi AR (pv 1) (pv 5)) AB) AC))))))
          AS)))))))
   (AE (AM Es))))), ?_⟩
  walk_at "RD"
  walk_at "AUTO"
  intro D H1 as gs nD s1 e1 ga hp ha
  have ok : ∀ g ∈ gs, OkG g := fun g hg => ok0 g (hp.mem_iff.mp hg)
  have la := ga.len
  have lg := hp.length_eq
  have hlm : (as.map V.ref).length = gs.length := by rw [List.length_map, la]
  have sl := SqL.of (K := K) e1
  refine ⟨_, Or.inl sl, ?_⟩
  rw [hlm]
  refine ⟨_, rfl, (gs.length : Int), rfl, by omega, by omega, A0 (Vf1 l D gs.length gs H1) ⟨none, none, none, rfl, AH.refl _, RC gs⟩ ?_ ?_⟩
  ·rintro i σ H2 hi ⟨x, y, z, rfl, t2, n1⟩
   have hi' : i < gs.length := by omega
   refine ⟨_, rfl, _, _, rfl, rfl, _, rfl, _, _, rfl, ⟨by omega, by omega, by omega, by omega⟩, A0 (Vf2 l D gs.length gs H1 i) ⟨_, _, rfl, t2, UN n1⟩ ?_ ?_⟩
   ·rintro j σ H3 hj ⟨y, z, rfl, t3, n2⟩
    have hj' : i + 1 + j < gs.length := by omega
    refine ⟨_, rfl, _, _, rfl, rfl, _, rfl, _, _, rfl, ⟨by omega, by omega, by omega, by omega⟩, A0 (Vf3 l D gs.length gs H1 i j) ⟨_, rfl, t3, na_in n2⟩ ?_ ?_⟩
    ·rintro u σ H4 hu' ⟨z, rfl, t4, n3⟩
     have hk' : i + 1 + j + 1 + u < gs.length := by omega
     obtain ⟨a1, ha1, t1'⟩ := ga.get (List.getElem?_eq_getElem hi')
     obtain ⟨a2, ha2, t2'⟩ := ga.get (List.getElem?_eq_getElem hj')
     obtain ⟨a3, ha3, t3'⟩ := ga.get (List.getElem?_eq_getElem hk')
     have t1 := t4.get t1'
     have t2 := t4.get t2'
     have t3 := t4.get t3'
     have i1 : atI (as.map V.ref) (0 + (i : Int)) = some (V.ref a1) := by rw [Int.zero_add]; exact Bo ha1
     have i2 : atI (as.map V.ref) (0 + (i : Int) + 1 + (j : Int)) = some (V.ref a2) := by rw [show 0 + (i : Int) + 1 + (j : Int) = ((i + 1 + j : Nat) : Int) by omega]; exact Bo ha2
     have i3 : atI (as.map V.ref) (0 + (i : Int) + 1 + (j : Int) + 1 + (u : Int)) = some (V.ref a3) := by rw [show 0 + (i : Int) + 1 + (j : Int) + 1 + (u : Int) = ((i + 1 + j + 1 + u : Nat) : Int) by omega]; exact Bo ha3
     have o1 := ok _ (List.getElem_mem hi')
     have o2 := ok _ (List.getElem_mem hj')
     have o3 := ok _ (List.getElem_mem hk')
     have g1 := BQ ha (List.getElem?_eq_getElem hi') (List.getElem?_eq_getElem hj') (by omega)
     have g2 := BQ ha (List.getElem?_eq_getElem hj') (List.getElem?_eq_getElem hk') (by omega)
     have sl4 := t4.seq sl
     walk_at "RD"
     walk_at "AUTO"
     unfold Kc
     refine ⟨_, _, _, gs[i], gs[i + 1 + j], gs[i + 1 + j + 1 + u], rfl, SqT.of t1, SqT.of t2, SqT.of t3, o1, o2, o3, g1, g2, fun H5 s5 => ?_⟩
     have t5 := t4.trans s5
     have e1 := s5.get t1
     have e2 := s5.get t2
     have e3 := s5.get t3
     have sl5 := s5.seq sl4
     refine ⟨rfl, ?_⟩
     by_cases hb : LR gs[i] gs[i + 1 + j] gs[i + 1 + j + 1 + u]
     ·rw [decide_eq_false (fun z => OB.mp (V.str.inj z) hb)]
      walk_at "AUTO"
      exact kk p H' [gs[i].p, gs[i + 1 + j].p, gs[i + 1 + j + 1 + u].p] (s1.trans (t5.trans hs)) he (by simp) (.perm (.yes gs (List.Perm.refl _) ha i (i + 1 + j) (i + 1 + j + 1 + u) _ _ _ ⟨⟨by omega, by omega, _, _, _, List.getElem?_eq_getElem hi', List.getElem?_eq_getElem hj', List.getElem?_eq_getElem hk', hb⟩, n3⟩ (List.getElem?_eq_getElem hi') (List.getElem?_eq_getElem hj') (List.getElem?_eq_getElem hk') rfl) hp)
     ·rw [decide_eq_true (congrArg V.str (OB.mpr hb))]
      refine ⟨_, rfl, t5, Sl n3 fun ⟨_, _, a, b, c, f1, f2, f3, f4⟩ => hb ?_⟩
      rw [List.getElem?_eq_getElem hi'] at f1
      rw [List.getElem?_eq_getElem hj'] at f2
      have f3 : gs[i + 1 + j + 1 + u]? = some c := f3
      rw [List.getElem?_eq_getElem hk'] at f3
      cases f1
      cases f2
      cases f3
      exact f4
    ·rintro σ H4 ⟨z, rfl, t4, n3⟩
     exact ⟨_, _, rfl, t4, Qv (by omega) n3⟩
   ·rintro σ H3 ⟨y, z, rfl, t3, n2⟩
    exact ⟨_, _, _, rfl, t3, O3 (by omega) n2⟩
  ·rintro σ H2 ⟨x, y, z, rfl, t2, n1⟩
   walk_at "RD"
   exact kn _ (s1.trans t2) (.perm (.no gs (List.Perm.refl _) ha (na_no n1) rfl) hp)
theorem Aq : AN ["one", "two", "divisor", "rest", "next_rest"] ["one", "two"] (AF Bt) := by walk_at "SC"
def Cv : Sp := fun vs H Q _ => ∃ a b : Int, vs = [.int a, .int b] ∧ 0 ≤ a ∧ 0 ≤ b ∧ Q (.int (Int.gcd a b)) H
def W_gd (a b : Int) (H : Hp) : Nat → St → Hp → Prop := fun m σ H' => ∃ (d r : Int) (x : Option V), m = r.toNat ∧ σ = [some (.int a), some (.int b), some (.int d), some (.int r), x] ∧ H' = H ∧ 0 ≤ d ∧ 0 ≤ r ∧ Int.gcd d r = Int.gcd a b
theorem Ga (T : Tx K mg) : Ah P w K mg base CX0 1 T.DD T.Cy ["one", "two"] Cv := by
 refine T.DJ.F.ok Aq (fun vs H Q E h => ?_) (fun cdv A outer s H vs Q E hr h => ?_)
 ·obtain ⟨a, b, rfl, ha, hb, k⟩ := h
  rfl
 ·obtain ⟨a, b, rfl, ha, hb, k⟩ := h
  have hu := Ad hr
  refine ⟨_, (AD (pst 2 Aq (pv 0))
   (AD (pst 3 Aq (pv 1))
   (AD (Rm PassesOwn.never (ptc FB (pv 3) AB)
    (AD (pst 4 Aq (AK SS (pv 2) (pv 3)))
     (AD (pst 2 Aq (pv 3))
     (AE (pst 3 Aq (pv 4))))))
   (AE (AM (pv 2)))))), ?_⟩
  walk_at "RD"
  refine ⟨W_gd a b H, ⟨_, a, b, none, rfl, rfl, rfl, ha, hb, rfl⟩, ?_⟩
  rintro m σ H' ⟨d, r, x, rfl, rfl, rfl, hd, hr', e⟩
  walk_at "RDE"
  by_cases h0 : r = 0
  ·subst h0
   simp only [decide_true, Bool.not_true, Bool.false_eq_true, if_false]
   walk_at "RD"
   rw [← e, QD hd] at k
   exact k
  ·simp only [h0, decide_false, Bool.not_false, if_true]
   refine ⟨_, fun _ _ h => h, ?_⟩
   walk_at "RD"
   have hp : 0 < r := by omega
   have hf := SV (d := d) hp
   refine ⟨h0, _, ?_, r, d.fmod r, _, rfl, rfl, rfl, hr', hf.1, (RA hd hp).trans e⟩
   omega
theorem I0 : AN ["top", "bottom", "divisor"] ["top", "bottom"] (AF Kv) := by walk_at "SC"
def GW : Sp := fun vs H Q _ => ∃ t b : Int, vs = [.int t, .int b] ∧ b ≠ 0 ∧ Sm b ∧ ∀ p H' x y, AH H H' → H' p = some (.tup [.int x, .int y]) → EG t b x y → Q (.ref p) H'
def C_lo (t b : Int) (H : Hp) : St → Hp → Prop := fun σ H' => ∃ d : Int, σ = [some (.int t), some (.int b), some (.int d)] ∧ H' = H ∧ d = if b < 0 then -((Int.gcd t b : Nat) : Int) else ((Int.gcd t b : Nat) : Int)
theorem JX (T : Tx K mg) : Ah P w K mg base CX0 2 T.Ob T.Mv ["top", "bottom"] GW := by
 refine T.Hw.F.ok I0 (fun vs H Q E h => ?_) (fun cdv A outer s H vs Q E hr h => ?_)
 ·obtain ⟨t, b, rfl, hb, hs, k⟩ := h
  rfl
 ·obtain ⟨t, b, rfl, hb, hs, k⟩ := h
  have hu := Ad hr
  refine ⟨_, (AD (pst 2 I0 (pcl T.DJ (Ga T) hr AV (AA (AJ Oc (by rfl) T.TZ Ry (AA (pv 0) AC)) (AA (AJ Oc (by rfl) T.TZ Ry (AA (pv 1) AC)) AC))))
   (IS (Af (ptc FN (pv 1) AB) (AE (pst 2 I0 (Fa DR (pv 2))))
    AS)
   (AE (AM (AZ (AA (AK N3 (pv 0) (pv 2)) (AA (AK N3 (pv 1) (pv 2)) AC))))))), ?_⟩
  delta Cv
  refine ⟨by split <;> omega, by split <;> omega, C_lo t b H, ?_, ?_⟩
  ·rw [SW]
   walk_at "RD"
   by_cases hn : b < 0
   ·rw [if_pos (decide_eq_true hn)]
    exact ⟨_, rfl, rfl, by rw [if_pos hn]⟩
   ·rw [if_neg (by simp [hn])]
    exact ⟨_, rfl, rfl, by rw [if_neg hn]⟩
  ·rintro σ' H' ⟨d, rfl, rfl, hd⟩
   obtain ⟨L, d0⟩ := VT hb hd
   have ds : Sm d := by
    refine Nat.lt_of_le_of_lt ?_ hs
    have h1 : d.natAbs = Int.gcd t b := by rw [hd]; split <;> omega
    rw [h1]
    exact Nat.le_of_dvd (by omega) (Int.gcd_dvd_natAbs_right t b)
   walk_at "RD"
   exact ⟨d0, ds, d0, ds, by decide, fun p H1 hp hs he => k p _ _ _ hs he L⟩
theorem Hg : AN ["one", "two", "left", "right"] ["one", "two"] (AF Jh) := by walk_at "SC"
def K4 (x y : Int) : Int := if x < y then -1 else if y < x then 1 else 0
def HY (K : PySem.W.Frag) : Sp := fun vs H Q _ => ∃ (p q : Addr) (a b c d : Int), vs = [.ref p, .ref q] ∧ SqT K H p [.int a, .int b] ∧ SqT K H q [.int c, .int d] ∧ Sm a ∧ Sm b ∧ Sm c ∧ Sm d ∧ Q (.int (K4 (a * d) (c * b))) H
theorem Hj (T : Tx K mg) : Ah P w K mg base CX0 1 T.M8 T.Kk ["one", "two"] (HY K) := by
 refine T.GV.F.ok Hg (fun vs H Q E h => ?_) (fun cdv A outer s H vs Q E hr h => ?_)
 ·obtain ⟨p, q, a, b, c, d, rfl, h1, h2, sa, sb, sc, sd, k⟩ := h
  rfl
 ·obtain ⟨p, q, a, b, c, d, rfl, h1, h2, sa, sb, sc, sd, k⟩ := h
  have hu := Ad hr
  refine ⟨_, (AD (pst 2 Hg (AK CW (pxi AL (pv 0) AB) (pxi AL (pv 1) AB)))
   (AD (pst 3 Hg (AK CW (pxi AL (pv 1) AB) (pxi AL (pv 0) AB)))
   (AD (Af (ptc FN (pv 2) (pv 3)) (AE (AM (Fa DR AB)))
    AS)
   (AD (Af (ptc Jt (pv 2) (pv 3)) (AE (AM AB))
    AS)
   (AE (AM AB)))))), ?_⟩
  walk_at "RD"
  walk_at "AUTO"
  unfold K4 at k
  by_cases c1 : a * d < c * b
  ·simp only [c1, decide_true, if_true] at k ⊢
   exact k
  ·by_cases c2 : c * b < a * d
   ·simp only [c1, c2, decide_true, decide_false, Bool.false_eq_true, if_true, if_false] at k ⊢
    exact k
   ·simp only [c1, c2, decide_true, decide_false, Bool.false_eq_true, if_true, if_false] at k ⊢
    exact k
theorem Bg : AN ["throw", "place", "height_top", "height_bottom", "rise_top", "rise_bottom", "top"] ["throw", "place"] (AF GI) := by walk_at "SC"
def IC (K : PySem.W.Frag) : Sp := fun vs H Q _ => ∃ (p : Addr) (pl a b c d : Int), vs = [.ref p, .int pl] ∧ SqT K H p [.int a, .int b, .int c, .int d] ∧ 0 < b ∧ 0 < d ∧ Md a ∧ Md b ∧ Md c ∧ Md d ∧ Md pl ∧ ∀ q H' x y, AH H H' → H' q = some (.tup [.int x, .int y]) → EG (a * d + pl * c * b) (b * d) x y → Q (.ref q) H'
theorem NC (T : Tx K mg) : Ah P w K mg base CX0 3 T.J3 T.Hr ["throw", "place"] (IC K) := by
 refine T.J2.F.ok Bg (fun vs H Q E h => ?_) (fun cdv A outer s H vs Q E hr h => ?_)
 ·obtain ⟨p, pl, a, b, c, d, rfl, h1, hb, hd, ma, mb, mc, md, mp, k⟩ := h
  rfl
 ·obtain ⟨p, pl, a, b, c, d, rfl, h1, hb, hd, ma, mb, mc, md, mp, k⟩ := h
  have hu := Ad hr
  refine ⟨_, (AD (pst 2 Bg (pxi AL (pv 0) AB))
   (AD (pst 3 Bg (pxi AL (pv 0) AB))
   (AD (pst 4 Bg (pxi AL (pv 0) AB))
   (AD (pst 5 Bg (pxi AL (pv 0) AB))
   (AD (pst 6 Bg (AK Al (AK CW (pv 2) (pv 5)) (AK CW (AK CW (pv 1) (pv 4)) (pv 3))))
   (AE (AM (pcl T.Hw (JX T) hr AV (AA (pv 6) (AA (AK CW (pv 3) (pv 5)) AC)))))))))), ?_⟩
  have sa := ma.sm
  have sb := mb.sm
  have sc := mc.sm
  have sd := md.sm
  have sp := mp.sm
  have s2 := mp.mulS mc
  have s3 := mb.mulS md
  have hne : b * d ≠ 0 := Int.mul_ne_zero (by omega) (by omega)
  walk_at "Q"
  walk_at "RD"
  walk_at "AUTO"
  walk_at "NX"
  walk_at "Q"
  walk_at "RD"
  walk_at "AUTO"
  walk_at "NX"
  walk_at "Q"
  walk_at "RD"
  walk_at "AUTO"
  walk_at "NX"
  walk_at "Q"
  walk_at "RD"
  walk_at "AUTO"
  walk_at "NX"
  walk_at "Q"
  walk_at "RD"
  walk_at "AUTO"
  walk_at "NX"
  delta GW
  walk_at "AUTO"
  exact fun q H' x y s e L => k q H' x y s e L
theorem DC : AN ["place", "height", "other", "second", "steps", "gain", "start", "rise"] ["place", "height", "other", "second"] (AF JD) := by walk_at "SC"
def HS : Sp := fun vs H Q _ => ∃ p0 h0 p1 h1 : Int, vs = [.int p0, .int h0, .int p1, .int h1] ∧ p0 ≠ p1 ∧ p0.natAbs ≤ 10 ^ 30 ∧ h0.natAbs ≤ 10 ^ 30 ∧ p1.natAbs ≤ 10 ^ 30 ∧ h1.natAbs ≤ 10 ^ 30 ∧
 ∀ q H' x y z v, AH H H' → H' q = some (.tup [.int x, .int y, .int z, .int v]) → EG (h0 * (p1 - p0) - p0 * (h1 - h0)) (p1 - p0) x y → EG (h1 - h0) (p1 - p0) z v → Q (.ref q) H'
theorem LF (T : Tx K mg) : Ah P w K mg base CX0 3 T.Mc T.Lj ["place", "height", "other", "second"] HS := by
 refine T.Jb.F.ok DC (fun vs H Q E h => ?_) (fun cdv A outer s H vs Q E hr h => ?_)
 ·obtain ⟨p0, h0, p1, h1, rfl, hne, b0, b1, b2, b3, k⟩ := h
  rfl
 ·obtain ⟨p0, h0, p1, h1, rfl, hne, b0, b1, b2, b3, k⟩ := h
  have hu := Ad hr
  refine ⟨_, (AD (pst 4 DC (AK An (pv 2) (pv 0)))
   (AD (pst 5 DC (AK An (pv 3) (pv 1)))
   (AD (pst 6 DC (pcl T.Hw (JX T) hr AV (AA (AK An (AK CW (pv 1) (pv 4)) (AK CW (pv 0) (pv 5))) (AA (pv 4) AC))))
   (AD (pst 7 DC (pcl T.Hw (JX T) hr AV (AA (pv 5) (AA (pv 4) AC))))
   (AE (AM (AZ (AA (pxi AL (pv 6) AB) (AA (pxi AL (pv 6) AB) (AA (pxi AL (pv 7) AB) (AA (pxi AL (pv 7) AB) AC))))))))))), ?_⟩
  have hs : p1 - p0 ≠ 0 := by omega
  have m1 : Sm (p1 - p0) := Sm.of (n := 10 ^ 31) (by omega) (by decide +kernel)
  have m2 : Sm (h1 - h0) := Sm.of (n := 10 ^ 31) (by omega) (by decide +kernel)
  have m3 : Sm p0 := Sm.of b0 (by decide +kernel)
  have m4 : Sm h0 := Sm.of b1 (by decide +kernel)
  walk_at "Q"
  walk_at "RD"
  walk_at "NX"
  walk_at "Q"
  walk_at "RD"
  walk_at "NX"
  walk_at "Q"
  delta GW
  walk_at "AUTO"
  intro q1 H1 x y s1 e1 Lw1
  walk_at "NX"
  walk_at "Q"
  delta GW
  walk_at "AUTO"
  intro q2 H2 z v s2 e2 Lw2
  walk_at "NX"
  walk_at "RD"
  walk_at "AUTO"
  exact k _ _ _ _ _ _ (by walk_at "SAME6") (by assumption) Lw1 Lw2
theorem GQ : AN ["throw", "gate", "height", "foot", "head"] ["throw", "gate"] (AF LB) := by walk_at "SC"
def Mf (K : PySem.W.Frag) : Sp := fun vs H Q _ => ∃ (p g : Addr) (a b c d pl f h : Int), vs = [.ref p, .ref g] ∧ SqT K H p [.int a, .int b, .int c, .int d] ∧ SqT K H g [.int pl, .int f, .int h] ∧ 0 < b ∧ 0 < d ∧ a.natAbs ≤ 10 ^ 15 ∧ b.natAbs ≤ 10 ^ 15 ∧ c.natAbs ≤ 10 ^ 15 ∧ d.natAbs ≤ 10 ^ 15 ∧ pl.natAbs ≤ 10 ^ 15 ∧ f.natAbs ≤ 10 ^ 15 ∧ h.natAbs ≤ 10 ^ 15 ∧ ∀ H', AH H H' → Q (.bl (decide (Pas a b c d pl f h))) H'
theorem MV (T : Tx K mg) : Ah P w K mg base CX0 4 T.OI T.MW ["throw", "gate"] (Mf K) := by
 refine T.Kd.F.ok GQ (fun vs H Q E h => ?_) (fun cdv A outer s H vs Q E hr h => ?_)
 ·obtain ⟨p, g, a, b, c, d, pl, f, h, rfl, hp, hg, hb, hd, b1, b2, b3, b4, b5, b6, b7, k⟩ := h
  rfl
 ·obtain ⟨p, g, a, b, c, d, pl, f, h, rfl, hp, hg, hb, hd, b1, b2, b3, b4, b5, b6, b7, k⟩ := h
  have hu := Ad hr
  refine ⟨_, (AD (pst 2 GQ (pcl T.J2 (NC T) hr AV (AA (pv 0) (AA (pxi AL (pv 1) AB) AC))))
   (AD (pst 3 GQ (AZ (AA (pxi AL (pv 1) AB) (AA AB AC))))
   (AD (pst 4 GQ (AZ (AA (pxi AL (pv 1) AB) (AA AB AC))))
   (AE (AM (Jd (pec Tc (pcl T.GV (Hj T) hr AV (AA (pv 3) (AA (pv 2) AC))) AB) (Na (pec Tc (pcl T.GV (Hj T) hr AV (AA (pv 2) (AA (pv 4) AC))) AB)))))))), ?_⟩
  have md : ∀ {i : Int}, i.natAbs ≤ 10 ^ 15 → Md i := fun h => Nat.le_trans h (by decide +kernel)
  walk_at "Q"
  delta IC
  walk_at "AUTO"
  refine ⟨a, b, c, d, hp, hb, hd, md b1, md b2, md b3, md b4, md b5, fun q H1 x y s1 e1 L => ?_⟩
  have bd := Bu b2 b4
  have bt1 := Bu b1 b4
  have bt2 := Bu (Bu b5 b3) b2
  have bt : (a * d + pl * c * b).natAbs ≤ 10 ^ 46 := by omega
  have sx : Sm x := Sm.of (Nat.le_trans L.absx bt) (by decide +kernel)
  have sy : Sm y := Sm.of (Nat.le_trans L.absy bd) (by decide +kernel)
  have sf : Sm f := Sm.of b6 (by decide +kernel)
  have sh : Sm h := Sm.of b7 (by decide +kernel)
  have s0 : Sm 1 := by unfold Sm; decide +kernel
  have E := L.eq
  have hy := L.pos
  have hbd : 0 < b * d := Int.mul_pos hb hd
  walk_at "NX"
  walk_at "Q"
  walk_at "RD"
  walk_at "AUTO"
  walk_at "NX"
  walk_at "Q"
  walk_at "RD"
  walk_at "AUTO"
  walk_at "NX"
  delta HY
  walk_at "AUTO"
  refine ⟨f, 1, (by walk_at "SQT4"), x, y, (by walk_at "SQT4"), sf, s0, sx, sy, ?_⟩
  have c1 : (K4 (f * y) (x * 1) ≤ 0) ↔ f * (b * d) ≤ a * d + pl * c * b := by
   rw [Int.mul_one]
   have e : K4 (f * y) x ≤ 0 ↔ f * y ≤ x := by unfold K4; split <;> (try split) <;> omega
   rw [e]
   generalize a * d + pl * c * b = t at *
   generalize b * d = u at *
   exact Sg hy hbd E
  have c2 : (K4 (x * 1) (h * y) ≤ 0) ↔ a * d + pl * c * b ≤ h * (b * d) := by
   rw [Int.mul_one]
   have e : K4 x (h * y) ≤ 0 ↔ x ≤ h * y := by unfold K4; split <;> (try split) <;> omega
   rw [e]
   generalize a * d + pl * c * b = t at *
   generalize b * d = u at *
   exact Sc hy hbd E
  by_cases g1 : f * (b * d) ≤ a * d + pl * c * b
  ·rw [if_pos (decide_eq_true (c1.mpr g1))]
   refine ⟨x, y, (by walk_at "SQT4"), h, 1, (by walk_at "SQT4"), sx, sy, sh, s0, ?_⟩
   have e : decide (K4 (x * 1) (h * y) ≤ 0) = decide (Pas a b c d pl f h) := by
    unfold Pas
    simp only [c2, g1, true_and]
   rw [e]
   exact k _ (by walk_at "SAME5")
  ·rw [if_neg (by simp only [decide_eq_true_eq]; exact fun z => g1 (c1.mp z))]
   have e : decide (Pas a b c d pl f h) = false := by
    unfold Pas
    simp only [g1, false_and, decide_false]
   rw [e] at k
   exact k _ (by walk_at "SAME5")
theorem ME : AN ["throw", "gates"] ["throw", "gates"] (AF Eo) := by walk_at "SC"
def G3 (K : PySem.W.Frag) : Sp := fun vs H Q _ => ∃ (q l : Addr) (t : Thr) (as : List Addr) (gs : List G), vs = [.ref q, .ref l] ∧ SqT K H q t.vs ∧ SqL K H l (as.map V.ref) ∧ Ab H as gs ∧ OkT t ∧ gs.length ≤ 1000 ∧ (∀ g ∈ gs, OkG g) ∧ ∀ H', AH H H' → Q (.bl (decide (∀ g ∈ gs, t.pas g))) H'
theorem MD (T : Tx K mg) : Ah P w K mg base CX0 5 T.Ia T.Gu ["throw", "gates"] (G3 K) := by
 refine T.Il.F.ok ME (fun vs H Q E h => ?_) (fun cdv A outer s H vs Q E hr h => ?_)
 ·obtain ⟨q, l, t, as, gs, rfl, hq, hl, ga, ot, hz, ok, k⟩ := h
  rfl
 ·obtain ⟨q, l, t, as, gs, rfl, hq, hl, ga, ot, hz, ok, k⟩ := h
  have hu := Ad hr
  refine ⟨_, (AE (AM (AJ (R0 (by rfl)) (by rfl) T.z_all UI (AA (IJ rfl (⟨rfl, by decide +kernel, by decide +kernel, by decide +kernel, rfl, by decide +kernel, by with_unfolding_all rfl, by rfl, by rfl, by rfl⟩ : Az _ _ "gate" ["throw"] [0]) (BV (pv 1)) (fun _ _ _ _  => (pcl T.Kd (MV T) hr AV (AA (pv 1) (AA (pv 0) AC)))) (fun _ _ _ _ => GP)) AC)))), ?_⟩
  delta IU
  walk_at "AUTO"
  intro D nD
  refine Mm (F := fun _ v g => v = V.bl (decide (t.pas g))) (fun _ _ _ _ _ h => h) (fun _ _ _ _ _ _ h => h) hl ga nD hz ?_ ?_
  ·intro v g H1 R hg s1 ev hR
   obtain ⟨p1, p2, p3, p4, p5⟩ := ok g hg
   delta Option.join_some
   walk_at "AUTO"
   unfold Mf
   refine ⟨_, _, t.a, t.b, t.c, t.d, g.p, g.f, g.h, rfl, s1.tup hq, SqT.of ev, ot.b0, ot.d0, Nat.le_trans ot.a1 (by decide), Nat.le_trans ot.b1 (by decide), Nat.le_trans ot.c1 (by decide), Nat.le_trans ot.d1 (by decide), by omega, by omega, by omega, fun H2 s2 => hR _ _ s2 rfl⟩
  ·intro H1 ys s1 e1 pr
   have ey := Paired.eq_map pr
   subst ey
   refine ⟨gs.map fun g => decide (t.pas g), SqL.of (by rw [e1, List.map_map]; rfl), ?_⟩
   have e : (gs.map fun g => decide (t.pas g)).all id = decide (∀ g ∈ gs, t.pas g) := by
    rw [Bool.eq_iff_iff]
    simp
   rw [e]
   exact k _ s1
theorem JF : AN ["throw", "ordered"] ["throw", "ordered"] (AF Co) := by walk_at "SC"
def JZ (K : PySem.W.Frag) : Sp := fun vs H Q _ => ∃ (q l : Addr) (a b c d : Int) (as : List Addr) (gs : List G), vs = [.ref q, .ref l] ∧ H q = some (.tup [.int a, .int b, .int c, .int d]) ∧ ¬ N4 a b c d ∧ SqL K H l (as.map V.ref) ∧ Ab H as gs ∧ gs.length ≤ 40 ∧ (∀ g ∈ gs, OkG g) ∧ ∀ D H', H D = none → AH H H' → H' D = some (.lst ((AU (gs.filter (JL a b c d))).map V.int)) → Q (.ref D) H'
theorem Eb (T : Tx K mg) : Ah P w K mg base CX0 5 T.FA T.EH ["throw", "ordered"] (JZ K) := by
 refine T.Ct.F.ok JF (fun vs H Q E h => ?_) (fun cdv A outer s H vs Q E hr h => ?_)
 ·obtain ⟨q, l, a, b, c, d, as, gs, rfl, hq, nb, hl, ga, l40, ok, k⟩ := h
  rfl
 ·obtain ⟨q, l, a, b, c, d, as, gs, rfl, hq, nb, hl, ga, l40, ok, k⟩ := h
  have hu := Ad hr
  refine ⟨_, (AE (AM (IJ rfl (⟨rfl, by decide +kernel, by decide +kernel, by decide +kernel, rfl, by decide +kernel, by with_unfolding_all rfl, by rfl, by rfl, by rfl⟩ : Az _ _ "gate" ["throw"] [0]) (BV (pv 1)) (fun _ _ _ _  => (pxi (KU (K := K) rfl) (pv 0) AB)) (fun _ _ _ _ => (Pz (BO (pcl T.Kd (MV T) hr AV (AA (pv 1) (AA (pv 0) AC))))))))), ?_⟩
  have h1 : ¬ b < 1 := fun z => nb (.inl z)
  have h2 : ¬ d < 1 := fun z => nb (.inr (.inl z))
  have h3 : ∀ x ∈ [a, b, c, d], x.natAbs ≤ 10 ^ 15 := fun x hx => by
   have h4 : ¬ x < -999999999 := fun z => nb (.inr (.inr ⟨x, hx, .inl z⟩))
   have h5 : ¬ 999999999 < x := fun z => nb (.inr (.inr ⟨x, hx, .inr z⟩))
   omega
  delta IU
  refine ⟨⟨_, hl⟩, fun D nD => ?_⟩
  refine NV (JL a b c d) (fun g => V.int g.p) hl ga nD (by omega) (fun v g H1 R hg s1 ev hR => ?_) (fun v g H1 R hg s1 ev hR => ?_) fun H1 s1 e1 => ?_
  ·have og := ok g hg
   have o1 := og.p0
   have o2 := og.p1
   have o3 := og.f0
   have o4 := og.fh
   have o5 := og.h1
   delta Option.join_some
   refine ⟨q, v, a, b, c, d, g.p, g.f, g.h, rfl, SqT.of (s1.get hq), SqT.of ev, by omega, by omega, h3 a (by simp), h3 b (by simp), h3 c (by simp), h3 d (by simp), by omega, by omega, by omega, fun H2 s2 => ⟨_, rfl, hR H2 s2⟩⟩
  ·delta Option.join_some
   exact ⟨_, SqT.of ev, _, rfl, hR⟩
  ·exact k D H1 nD s1 (by rw [e1, List.map_map]; rfl)
theorem KA : AN ["earlier", "later"] ["earlier", "later"] (AF DA) := by walk_at "SC"
def E7 (K : PySem.W.Frag) : Sp := fun vs H Q _ => ∃ (a b : Addr) (x y : G), vs = [.ref a, .ref b] ∧ SqT K H a (G.vs x) ∧ SqT K H b (G.vs y) ∧ OkG x ∧ OkG y ∧ ∀ D H', AH H H' → H' D = some (.tup [.int (y.h - x.f), .int (y.p - x.p)]) → Q (.ref D) H'
theorem E6 (T : Tx K mg) : Ah P w K mg base CX0 1 T.GB T.FM ["earlier", "later"] (E7 K) := by
 refine T.DG.F.ok KA (fun vs H Q E h => ?_) (fun cdv A outer s H vs Q E hr h => ?_)
 ·obtain ⟨a, b, x, y, rfl, ha, hb, o1, o2, k⟩ := h
  rfl
 ·obtain ⟨a, b, x, y, rfl, ha, hb, o1, o2, k⟩ := h
  have hu := Ad hr
  refine ⟨_, (AE (AM (AZ (AA (AK An (pxi AL (pv 1) AB) (pxi AL (pv 0) AB)) (AA (AK An (pxi AL (pv 1) AB) (pxi AL (pv 0) AB)) AC))))), ?_⟩
  obtain ⟨p1, p2, p3, p4, p5⟩ := id o1
  obtain ⟨q1, q2, q3, q4, q5⟩ := id o2
  walk_at "RD"
  walk_at "AUTO"
  exact k _ _ hs he
theorem Aw : AN ["ordered", "pair", "index", "earlier", "later"] ["ordered"] (AF Cr) := by walk_at "SC"
structure JQ (H : Hp) (D : Addr) (gs : List G) (ax ay : Addr) (x y : G) : Prop where
 eD : H D = some (.tup [.ref ax, .ref ay])
 ex : H ax = some (.tup (G.vs x))
 ey : H ay = some (.tup (G.vs y))
 hx : x ∈ gs
 hy : y ∈ gs
 lt : x.p < y.p
theorem JQ.same {H H' : Hp} {D : Addr} {gs : List G} {ax ay : Addr} {x y : G} (h : JQ H D gs ax ay x y) (s : AH H H') : JQ H' D gs ax ay x y := ⟨s.get h.eD, s.get h.ex, s.get h.ey, h.hx, h.hy, h.lt⟩
def LeAll (gs : List G) (x y : G) (i j : Nat) : Prop := ∀ i' j' u v, i' < j' → gs[i']? = some u → gs[j']? = some v → (i' < i ∨ (i' = i ∧ j' < j)) → LeR x y u v
structure Cw (gs : List G) (x y : G) (i j : Nat) : Prop where
 le : LeAll gs x y i j
 first : ∀ i' j' u v, i' < j' → gs[i']? = some u → gs[j']? = some v → (i' < i ∨ (i' = i ∧ j' < j)) → LeR u v x y → (x.p < u.p ∨ (x.p = u.p ∧ y.p ≤ v.p))
 pos : ∃ a b : Nat, gs[a]? = some x ∧ gs[b]? = some y ∧ ((a = 0 ∧ b = 1) ∨ a < i ∨ (a = i ∧ b < j))
theorem U6 {gs : List G} (ha : Asc gs) {i j : Nat} {x y : G} (hx : gs[i]? = some x) (hy : gs[j]? = some y) (h : i ≤ j) : x.p ≤ y.p := by
 rcases Nat.lt_or_eq_of_le h with z | z
 ·have := BQ ha hx hy z; omega
 ·subst z; rw [hx] at hy; cases hy; omega
theorem Cw.skip {gs : List G} {x y u v : G} {i j : Nat} (ha : Asc gs) (h : Cw gs x y i (i + 1 + j)) (gu : gs[i]? = some u) (gv : gs[i + 1 + j]? = some v) (hb : LeR x y u v) : Cw gs x y i (i + 1 + (j + 1)) := by
 obtain ⟨a, b, ga, gb, hp⟩ := h.pos
 refine ⟨fun i' j' u' v' h1 h2 h3 h4 => ?_, fun i' j' u' v' h1 h2 h3 h4 h5 => ?_, a, b, ga, gb, by omega⟩
 ·rcases (by omega : (i' < i ∨ (i' = i ∧ j' < i + 1 + j)) ∨ (i' = i ∧ j' = i + 1 + j)) with z | ⟨rfl, rfl⟩
  ·exact h.le i' j' u' v' h1 h2 h3 z
  ·cases gu.symm.trans h2
   cases gv.symm.trans h3
   exact hb
 ·rcases (by omega : (i' < i ∨ (i' = i ∧ j' < i + 1 + j)) ∨ (i' = i ∧ j' = i + 1 + j)) with z | ⟨rfl, rfl⟩
  ·exact h.first i' j' u' v' h1 h2 h3 z h5
  ·by_cases hl : a < i'
   ·exact .inl (BQ ha ga h2 hl)
   ·have e : a = i' := by omega
    subst e
    rw [ga] at h2
    cases h2
    exact .inr ⟨rfl, U6 ha gb h3 (by omega)⟩
theorem Cw.take {gs : List G} {x y u v : G} {i j : Nat} (ha : Asc gs) (lxy : x.p < y.p) (h : Cw gs x y i (i + 1 + j)) (gu : gs[i]? = some u) (gv : gs[i + 1 + j]? = some v) (hb : ¬ LeR x y u v) : Cw gs u v i (i + 1 + (j + 1)) := by
 have luv := BQ ha gu gv (by omega)
 have lt' : LeR u v x y := by
  unfold LeR at hb ⊢
  rw [Int.not_le] at hb
  exact Int.le_of_lt hb
 refine ⟨fun i' j' u' v' h1 h2 h3 h4 => ?_, fun i' j' u' v' h1 h2 h3 h4 h5 => ?_, i, i + 1 + j, gu, gv, by omega⟩
 ·rcases (by omega : (i' < i ∨ (i' = i ∧ j' < i + 1 + j)) ∨ (i' = i ∧ j' = i + 1 + j)) with z | ⟨rfl, rfl⟩
  ·exact LeR.trans luv lxy (BQ ha h2 h3 h1) lt' (h.le i' j' u' v' h1 h2 h3 z)
  ·cases gu.symm.trans h2
   cases gv.symm.trans h3
   exact LeR.refl u v
 ·rcases (by omega : (i' < i ∨ (i' = i ∧ j' < i + 1 + j)) ∨ (i' = i ∧ j' = i + 1 + j)) with z | ⟨rfl, rfl⟩
  ·exact absurd (LeR.trans lxy (BQ ha h2 h3 h1) luv (h.le i' j' u' v' h1 h2 h3 z) h5) hb
  ·cases gu.symm.trans h2
   cases gv.symm.trans h3
   exact .inr ⟨rfl, Int.le_refl _⟩
theorem Cw.row {gs : List G} {x y : G} {i : Nat} (h : Cw gs x y i 0) : Cw gs x y i (i + 1 + 0) :=
 ⟨fun i' j' u v h1 h2 h3 h4 => h.le i' j' u v h1 h2 h3 (by omega), fun i' j' u v h1 h2 h3 h4 => h.first i' j' u v h1 h2 h3 (by omega), let ⟨a, b, ga, gb, hp⟩ := h.pos; ⟨a, b, ga, gb, by omega⟩⟩
theorem Cw.next {gs : List G} {x y : G} {i n : Nat} (hn : i + 1 + n = gs.length) (h : Cw gs x y i (i + 1 + n)) : Cw gs x y (i + 1) 0 :=
 ⟨fun i' j' u v h1 h2 h3 h4 => h.le i' j' u v h1 h2 h3 (by have := (List.getElem?_eq_some_iff.mp h3).1; omega), fun i' j' u v h1 h2 h3 h4 => h.first i' j' u v h1 h2 h3 (by have := (List.getElem?_eq_some_iff.mp h3).1; omega), let ⟨a, b, ga, gb, hp⟩ := h.pos; ⟨a, b, ga, gb, by omega⟩⟩
theorem Cw.out {gs : List G} {x y : G} (ha : Asc gs) (h : Cw gs x y gs.length 0) : (∀ x' ∈ gs, ∀ y' ∈ gs, x'.p < y'.p → LeR x y x' y') ∧ NP gs x y := by
 refine ⟨fun x' hx' y' hy' lt' => ?_, fun x' hx' y' hy' lt' hl => ?_⟩
 all_goals
  obtain ⟨i', hi', rfl⟩ := List.getElem_of_mem hx'
  obtain ⟨j', hj', rfl⟩ := List.getElem_of_mem hy'
  have q1 := List.getElem?_eq_getElem hi'
  have q2 := List.getElem?_eq_getElem hj'
 ·exact h.le i' j' _ _ (EZ ha q1 q2 lt') q1 q2 (by omega)
 ·exact h.first i' j' _ _ (EZ ha q1 q2 lt') q1 q2 (by omega) hl
def Ed (K : PySem.W.Frag) : Sp := fun vs H Q _ => ∃ (l : Addr) (as : List Addr) (gs : List G), vs = [.ref l] ∧ SqL K H l (as.map V.ref) ∧ Ab H as gs ∧ Asc gs ∧ 2 ≤ gs.length ∧ gs.length ≤ 1000 ∧ (∀ g ∈ gs, OkG g) ∧ ∀ D H' ax ay x y, AH H H' → JQ H' D gs ax ay x y → (∀ x' ∈ gs, ∀ y' ∈ gs, x'.p < y'.p → LeR x y x' y') → NP gs x y → Q (.ref D) H'
def Wt1 (l : Addr) (gs : List G) (H : Hp) : Nat → St → Hp → Prop := fun i σ H' => ∃ D ax ay x y o1 o2 o3, σ = [some (.ref l), some (.ref D), o1, o2, o3] ∧ AH H H' ∧ JQ H' D gs ax ay x y ∧ Cw gs x y i 0
def Wt2 (l ea : Addr) (gs : List G) (H : Hp) (i : Nat) : Nat → St → Hp → Prop := fun j σ H' => ∃ D ax ay x y o3, σ = [some (.ref l), some (.ref D), some (.int (i : Int)), some (.ref ea), o3] ∧ AH H H' ∧ JQ H' D gs ax ay x y ∧ Cw gs x y i (i + 1 + j)
theorem Jc (T : Tx K mg) : Ah P w K mg base CX0 2 T.FC T.Ei ["ordered"] (Ed K) := by
 refine T.FQ.F.ok Aw (fun vs H Q E h => ?_) (fun cdv A outer s H vs Q E hr h => ?_)
 ·obtain ⟨l, as, gs, rfl, hl, ga, ha, l2, hz, ok, k⟩ := h
  rfl
 ·obtain ⟨l, as, gs, rfl, hl, ga, ha, l2, hz, ok, k⟩ := h
  have hu := Ad hr
  refine ⟨_, (AD (pst 1 Aw (AZ (AA (pxi AR (pv 0) AB) (AA (pxi AR (pv 0) AB) AC))))
   (AD (BF PassesOwn.never rfl (P3 (by rfl) T.J5 (AA (pv 0) AC)) (NL (n := 2) rfl (B7 (pgn 2 Aw) (B7 (pgn 3 Aw) KZ)))
    (AE (BF PassesOwn.never rfl (BV (LP Kn (pv 0) (Nk (AK Al (pv 2) AB)) Nl)) (pgn 4 Aw)
      (AE (Af (ptc FN (pcl T.GV (Hj T) hr AV (AA (pcl T.DG (E6 T) hr AV (AA (pv 3) (AA (pv 4) AC))) (AA (pcl T.DG (E6 T) hr AV (AA (pxi AL (pv 1) AB) (AA (pxi AL (pv 1) AB) AC))) AC))) AB) (AE (pst 1 Aw (AZ (AA (pv 3) (AA (pv 4) AC)))))
        AS)))))
   (AE (AM (pv 1))))), ?_⟩
  have la := ga.len
  have h0 : 0 < gs.length := by omega
  have h1 : 1 < gs.length := by omega
  obtain ⟨a0, f0, e0⟩ := ga.get (List.getElem?_eq_getElem h0)
  obtain ⟨a1, f1, e1⟩ := ga.get (List.getElem?_eq_getElem h1)
  have i0 : atI (as.map V.ref) 0 = some (V.ref a0) := Bo (i := 0) f0
  have i1 : atI (as.map V.ref) 1 = some (V.ref a1) := Bo (i := 1) f1
  walk_at "RD"
  walk_at "AUTO"
  refine ⟨_, rfl, l, rfl, ⟨_, hs.seq hl⟩, OO (xs := as.map V.ref) (Wt1 l gs H') ⟨p, a0, a1, gs[0], gs[1], none, none, none, rfl, AH.refl _, ⟨he, hs.get e0, hs.get e1, List.getElem_mem h0, List.getElem_mem h1, BQ ha (List.getElem?_eq_getElem h0) (List.getElem?_eq_getElem h1) (by omega)⟩, ⟨fun i' j' u v _ _ _ hh => by omega, fun i' j' u v _ _ _ hh => by omega, 0, 1, List.getElem?_eq_getElem h0, List.getElem?_eq_getElem h1, .inl ⟨rfl, rfl⟩⟩⟩ (fun i σ H1 _ ⟨_, _, _, _, _, _, _, _, _, s1, _, _⟩ => (hs.trans s1).seq hl) ?_ ?_⟩
  ·rintro i vv σ H1 pp H2 hx ⟨D, ax, ay, x, y, o1, o2, o3, rfl, s1, pa, le⟩ hn s2 e2
   have hi : i < gs.length := by
    have := (List.getElem?_eq_some_iff.mp hx).1
    rw [List.length_map] at this
    omega
   obtain ⟨ea, fe, ee⟩ := ga.get (List.getElem?_eq_getElem hi)
   have ex : vv = V.ref ea := by
    rw [List.getElem?_map, fe] at hx
    exact (Option.some.inj hx).symm
   subst ex
   have s02 := hs.trans (s1.trans s2)
   have gu := List.getElem?_eq_getElem hi
   generalize hu0 : gs[i] = u at ee gu
   have ou := ok u (List.mem_of_getElem? gu)
   delta JC EQ JV
   refine ⟨_, SqT.of e2, rfl, _, _, rfl, _, _, rfl, rfl, ?_⟩
   refine ⟨_, rfl, _, rfl, _, _, rfl, rfl, _, rfl, l, rfl, _, s02.seq hl, fun S H3 nS s3 eS => ?_⟩
   rw [show (i : Int) + 1 = ((i + 1 : Nat) : Int) by omega, Mo, ← List.map_drop] at eS
   have s03 := s02.trans s3
   refine ⟨S, rfl, ⟨_, SqL.of eS⟩, ER (xs := (as.drop (i + 1)).map V.ref) (Wt2 l ea gs H3 i) ⟨D, ax, ay, x, y, o3, rfl, AH.refl _, (pa.same s2).same s3, le.row⟩ (fun j σ H4 _ ⟨_, _, _, _, _, _, _, s4, _, _⟩ => SqL.of (s4.get eS)) ?_ ?_⟩
   ·rintro j vv σ H4 hx ⟨D, ax, ay, x, y, o3, rfl, s4, pa, le⟩
    have hj : i + 1 + j < gs.length := by
     have := (List.getElem?_eq_some_iff.mp hx).1
     rw [List.length_map, List.length_drop] at this
     omega
    obtain ⟨la', fl, el⟩ := ga.get (List.getElem?_eq_getElem hj)
    have ex : vv = V.ref la' := by
     rw [List.getElem?_map, List.getElem?_drop, fl] at hx
     exact (Option.some.inj hx).symm
    subst ex
    have s04 := s03.trans s4
    have gv := List.getElem?_eq_getElem hj
    generalize hv0 : gs[i + 1 + j] = v at el gv
    have ov := ok v (List.mem_of_getElem? gv)
    have eu4 := s04.get ee
    have ev4 := s04.get el
    have ex4 := pa.ex
    have ey4 := pa.ey
    have eD4 := pa.eD
    have luv := BQ ha gu gv (by omega)
    have lxy := pa.lt
    have ox := ok x pa.hx
    have oy := ok y pa.hy
    walk_at "RD"
    walk_at "AUTO"
    unfold E7 HY
    refine ⟨_, _, u, v, rfl, SqT.of eu4, SqT.of ev4, ou, ov, fun D1 H5 s5 e5 => ?_⟩
    walk_at "AUTO"
    refine ⟨_, _, x, y, rfl, (by walk_at "SQT4"), (by walk_at "SQT4"), ox, oy, fun D2 H6 s6 e6 => ?_⟩
    obtain ⟨p1, p2, p3, p4, p5⟩ := id ou
    obtain ⟨q1, q2, q3, q4, q5⟩ := id ov
    obtain ⟨r1, r2, r3, r4, r5⟩ := id ox
    obtain ⟨t1, t2, t3, t4, t5⟩ := id oy
    have w1 : Sm (v.h - u.f) := Sm.of (n := 10 ^ 10) (by omega) (by decide +kernel)
    have w2 : Sm (v.p - u.p) := Sm.of (n := 10 ^ 10) (by omega) (by decide +kernel)
    have w3 : Sm (y.h - x.f) := Sm.of (n := 10 ^ 10) (by omega) (by decide +kernel)
    have w4 : Sm (y.p - x.p) := Sm.of (n := 10 ^ 10) (by omega) (by decide +kernel)
    refine ⟨_, _, _, _, _, _, rfl, SqT.of (s6.get e5), SqT.of e6, w1, w2, w3, w4, ?_⟩
    have ec : K4 ((v.h - u.f) * (y.p - x.p)) ((y.h - x.f) * (v.p - u.p)) < 0 ↔ ¬ LeR x y u v := by
     unfold K4 LeR
     rw [Int.not_le]
     split <;> (try split) <;> omega
    have s46 := s5.trans s6
    refine ⟨_, rfl, ?_⟩
    by_cases hb : LeR x y u v
    ·rw [if_neg (fun z => ec.mp (of_decide_eq_true z) hb)]
     exact ⟨D, ax, ay, x, y, _, rfl, s4.trans s46, pa.same s46, le.skip ha gu gv hb⟩
    ·rw [if_pos (decide_eq_true (ec.mpr hb))]
     walk_at "AUTO"
     exact ⟨p, ea, la', u, v, _, rfl, s4.trans (s46.trans hs), ⟨he, hs.get (s46.get eu4), hs.get (s46.get ev4), List.mem_of_getElem? gu, List.mem_of_getElem? gv, luv⟩, le.take ha lxy gu gv hb⟩
   ·rintro σ H4 ⟨D, ax, ay, x, y, o3, rfl, s4, pa, le⟩
    rw [List.length_map, List.length_drop] at le
    exact ⟨D, ax, ay, x, y, _, _, _, rfl, s1.trans (s2.trans (s3.trans s4)), pa, le.next (by omega)⟩
  ·rintro σ H1 ⟨D, ax, ay, x, y, o1, o2, o3, rfl, s1, pa, le⟩
   rw [List.length_map] at le
   walk_at "RD"
   rw [la] at le
   exact k D H1 ax ay x y (hs.trans s1) pa (le.out ha).1 (le.out ha).2
theorem BA : AN ["ordered", "pair", "foot_place", "head_place", "throw"] ["ordered"] (AF CQ) := by walk_at "SC"
def BU (K : PySem.W.Frag) : Sp := fun vs H Q _ => ∃ (l : Addr) (as : List Addr) (gs : List G), vs = [.ref l] ∧ SqL K H l (as.map V.ref) ∧ Ab H as gs ∧ Asc gs ∧ 2 ≤ gs.length ∧ gs.length ≤ 1000 ∧ (∀ g ∈ gs, OkG g) ∧ (∀ H', AH H H' → ¬ BK gs → Q .non H') ∧ ∀ D H' q t x y, AH H H' → Sx H' D gs q t x y → NP gs x y → Q (.ref D) H'
theorem B9 (T : Tx K mg) : Ah P w K mg base CX0 6 T.EU T.Dj ["ordered"] (BU K) := by
 refine T.Bi.F.ok BA (fun vs H Q E h => ?_) (fun cdv A outer s H vs Q E hr h => ?_)
 ·obtain ⟨l, as, gs, rfl, hl, ga, ha, l2, hz, ok, kn, k⟩ := h
  rfl
 ·obtain ⟨l, as, gs, rfl, hl, ga, ha, l2, hz, ok, kn, k⟩ := h
  have hu := Ad hr
  refine ⟨_, (AD (pst 1 BA (pcl T.FQ (Jc T) hr AV (AA (pv 0) AC)))
   (AD (pst 2 BA (pxi AL (pxi AL (pv 1) AB) AB))
   (AD (pst 3 BA (pxi AL (pxi AL (pv 1) AB) AB))
   (AD (pst 4 BA (pcl T.Jb (LF T) hr AV (AA (pv 2) (AA (pxi AL (pxi AL (pv 1) AB) AB) (AA (pv 3) (AA (pxi AL (pxi AL (pv 1) AB) AB) AC))))))
   (AD (Af (CN (BO (pcl T.Il (MD T) hr AV (AA (pv 4) (AA (pv 0) AC))))) (AE (AM Es))
    AS)
   (AE (AM (AZ (AA (pv 4) (AA (pv 2) (AA (pv 3) AC))))))))))), ?_⟩
  walk_at "RD"
  walk_at "AUTO"
  unfold Ed
  refine ⟨_, as, gs, rfl, hl, ga, ha, l2, hz, ok, fun D H1 ax ay x y s1 pa le fp => ?_⟩
  have eD := pa.eD
  have ex := pa.ex
  have ey := pa.ey
  have lxy := pa.lt
  have ox := ok x pa.hx
  have oy := ok y pa.hy
  obtain ⟨r1, r2, r3, r4, r5⟩ := id ox
  obtain ⟨t1, t2, t3, t4, t5⟩ := id oy
  walk_at "AUTO"
  unfold HS
  refine ⟨x.p, x.f, y.p, y.h, rfl, by omega, by omega, by omega, by omega, by omega, fun q H2 a b c d s2 e2 L1 L2 => ?_⟩
  have lo := OA lxy L1 L2
  have ot := P5 (by omega) (by omega) (by omega) (by omega) L1 L2
  walk_at "AUTO"
  unfold G3
  refine ⟨_, _, ⟨a, b, c, d⟩, as, gs, rfl, SqT.of e2, (s1.trans s2).seq hl, ga.same (s1.trans s2), ot, hz, ok, fun H3 s3 => ?_⟩
  by_cases hb : ∀ g ∈ gs, (⟨a, b, c, d⟩ : Thr).pas g
  ·rw [decide_eq_true hb]
   have e3 := s3.get e2
   walk_at "AUTO"
   exact k _ _ q ⟨a, b, c, d⟩ x y (s1.trans (s2.trans (s3.trans hs))) ⟨he, hs.get e3, ot, hb, pa.hx, pa.hy, lxy, lo.2.1, lo.2.2⟩ fp
  ·rw [decide_eq_false hb]
   walk_at "AUTO"
   exact kn _ (s1.trans (s2.trans s3)) (Hk ha ok pa.hx pa.hy lxy le fun z => hb fun g hg => (lo.1 g).mpr (z g hg))
theorem Ke : AN ["height"] ["height"] (AF D8) := by walk_at "SC"
def DS : Sp := fun vs H Q _ => ∃ h : Int, vs = [.int h] ∧ ∀ D H', AH H H' → H' D = some (.tup [.int h, .int 1, .int 0, .int 1]) → Q (.ref D) H'
theorem No {h : Int} (b : h.natAbs ≤ 1000) : OkT ⟨h, 1, 0, 1⟩ := ⟨by show h.natAbs ≤ _; omega, by show (1 : Int).natAbs ≤ _; decide, by show (0 : Int).natAbs ≤ _; decide, by show (1 : Int).natAbs ≤ _; decide, by show (0 : Int) < 1; decide, by show (0 : Int) < 1; decide, by show Int.gcd h 1 = 1; simp, by show Int.gcd 0 1 = 1; decide⟩
theorem Ql {g : G} (o : OkG g) : (⟨g.f, 1, 0, 1⟩ : Thr).pas g := by
 obtain ⟨_, _, _, h, _⟩ := o
 show Pas g.f 1 0 1 g.p g.f g.h
 unfold Pas
 constructor <;> simp <;> omega
theorem Fv (T : Tx K mg) : Ah P w K mg base CX0 1 T.HI T.Ft ["height"] DS := by
 refine T.Do.F.ok Ke (fun vs H Q E h => ?_) (fun cdv A outer s H vs Q E hr h => ?_)
 ·obtain ⟨h, rfl, k⟩ := h
  rfl
 ·obtain ⟨h, rfl, k⟩ := h
  have hu := Ad hr
  refine ⟨_, (AE (AM (AZ (AA (pv 0) (AA AB (AA AB (AA AB AC))))))), ?_⟩
  walk_at "RD"
  walk_at "AUTO"
  exact k _ _ hs he
theorem FG : AN ["ordered", "found"] ["ordered"] (AF DE) := by walk_at "SC"
def Cs (K : PySem.W.Frag) : Sp := fun vs H Q _ => ∃ (l : Addr) (as : List Addr) (gs : List G), vs = [.ref l] ∧ SqL K H l (as.map V.ref) ∧ Ab H as gs ∧ Asc gs ∧ gs.length ≤ 1000 ∧ (∀ g ∈ gs, OkG g) ∧ (∀ H', AH H H' → ¬ BK gs → Q .non H') ∧ ∀ D H' t, AH H H' → H' D = some (.tup t.vs) → OkT t → (∀ g ∈ gs, t.pas g) → Own gs t → Q (.ref D) H'
theorem Br (T : Tx K mg) : Ah P w K mg base CX0 7 T.F2 T.FH ["ordered"] (Cs K) := by
 refine T.Bc.F.ok FG (fun vs H Q E h => ?_) (fun cdv A outer s H vs Q E hr h => ?_)
 ·obtain ⟨l, as, gs, rfl, hl, ga, ha, hz, ok, kn, k⟩ := h
  rfl
 ·obtain ⟨l, as, gs, rfl, hl, ga, ha, hz, ok, kn, k⟩ := h
  have hu := Ad hr
  refine ⟨_, (AD (Af (ptc B4 (AJ AQ (by rfl) T.Ay Ao (AA (pv 0) AC)) AB) (AE (AM (pcl T.Do (Fv T) hr AV (AA AB AC))))
    AS)
   (AD (Af (ptc B4 (AJ AQ (by rfl) T.Ay Ao (AA (pv 0) AC)) AB) (AE (AM (pcl T.Do (Fv T) hr AV (AA (pxi AL (pxi AR (pv 0) AB) AB) AC))))
    AS)
   (AD (pst 1 FG (pcl T.Bi (B9 T) hr AV (AA (pv 0) AC)))
   (AD (Af (ptc Kz (pv 1) Es) (AE (AM Es))
    AS)
   (AE (AM (pxi AL (pv 1) AB))))))), ?_⟩
  have la := ga.len
  walk_at "RD"
  walk_at "AUTO"
  rw [List.length_map, la]
  by_cases c0 : gs.length = 0
  ·have eg := List.eq_nil_of_length_eq_zero c0
   rw [if_pos (decide_eq_true (by omega))]
   unfold DS
   refine ⟨0, rfl, fun D H1 s1 e1 => k D H1 ⟨0, 1, 0, 1⟩ s1 e1 (No (by decide)) (fun g hg => by rw [eg] at hg; exact absurd hg (by simp)) ⟨fun g z => (by rw [eg] at z; cases z), fun z => by omega⟩⟩
  rw [if_neg (fun z => c0 (by have := of_decide_eq_true z; omega))]
  walk_at "AUTO"
  rw [List.length_map, la]
  by_cases c1 : gs.length = 1
  ·rw [if_pos (decide_eq_true (by omega))]
   match gs, ga, c1, ok, k with
   | [g], ga, _, ok, k =>
    obtain ⟨a0, f0, e0⟩ := ga.get (i := 0) (g := g) rfl
    have i0 : atI (as.map V.ref) 0 = some (V.ref a0) := Bo (i := 0) f0
    have og := ok g (by simp)
    obtain ⟨q1, q2, q3, q4, q5⟩ := id og
    walk_at "AUTO"
    unfold DS
    refine ⟨g.f, rfl, fun D H1 s1 e1 => k D H1 ⟨g.f, 1, 0, 1⟩ s1 e1 (No (by omega)) (fun g' hg => by rw [List.mem_singleton.mp hg]; exact Ql og) ⟨fun g' z => (by cases z; rfl), fun z => absurd z (by simp)⟩⟩
  rw [if_neg (fun z => c1 (by have := of_decide_eq_true z; omega))]
  walk_at "AUTO"
  unfold BU
  refine ⟨_, as, gs, rfl, hl, ga, ha, by omega, hz, ok, fun H1 s1 nb => ?_, fun D H1 q t x y s1 fa fp => ?_⟩
  ·walk_at "AUTO"
   exact kn _ s1 nb
  ·have eD := fa.eD
   walk_at "AUTO"
   exact k q H1 t s1 fa.eq fa.ok fa.all ⟨fun g z => absurd (congrArg List.length z) c1, fun _ => ⟨fa.ok, fa.all, x, fa.hx, y, fa.hy, fa.lt, fa.tx, fa.ty⟩⟩
theorem OP : AN ["gates"] ["gates"] (AF Hc) := by walk_at "SC"
def Dm (K : PySem.W.Frag) : Sp := fun vs H Q _ => ∃ (l : Addr) (as : List Addr) (gs sg : List G), vs = [.ref l] ∧ SqL K H l (as.map V.ref) ∧ Ab H as gs ∧ (gs.map G.p).Nodup ∧ gs.length ≤ 40 ∧ (∀ g ∈ gs, OkG g) ∧ sg.Perm gs ∧ Asc sg ∧ ¬ BK sg ∧ ∀ D H', AH H H' → BarAt H' D gs → Q (.ref D) H'
theorem Fh (T : Tx K mg) : Ah P w K mg base CX0 4 T.LJ T.J6 ["gates"] (Dm K) := by
 refine T.Ep.F.ok OP (fun vs H Q E h => ?_) (fun cdv A outer s H vs Q E hr h => ?_)
 ·obtain ⟨l, as, gs, sg, rfl, hl, ga, nd, h40, ok, hp, ha, nb, k⟩ := h
  rfl
 ·obtain ⟨l, as, gs, sg, rfl, hl, ga, nd, h40, ok, hp, ha, nb, k⟩ := h
  have hu := Ad hr
  refine ⟨_, (AE (AM (AZ (AA BD (AA (pcl T.HG (Le T) hr AV (AA (pv 0) AC)) AC))))), ?_⟩
  walk_at "RD"
  walk_at "AUTO"
  unfold Fm
  refine ⟨_, as, gs, rfl, hl, ga, nd, h40, ok, fun H1 s1 hf => absurd rfl (NO hp ha nb hf), fun D H1 t s1 e1 ne hf => ?_⟩
  walk_at "AUTO"
  exact k _ _ (s1.trans hs) ⟨D, t, he, hs.get e1, ne, hf⟩
theorem Eg : AN ["gates", "throw"] ["gates"] (AF Ck) := by walk_at "SC"
def Jk (K : PySem.W.Frag) : Sp := fun vs H Q _ => ∃ (l : Addr) (as : List Addr) (gs : List G), vs = [.ref l] ∧ SqL K H l (as.map V.ref) ∧ Ab H as gs ∧ (gs.map G.p).Nodup ∧ gs.length ≤ 40 ∧ gs ≠ [] ∧ (∀ g ∈ gs, OkG g) ∧ ∀ D H' sg x, AH H H' → sg.Perm gs → Asc sg → KI sg x → Enc H' x (.ref D) → Q (.ref D) H'
theorem JH (T : Tx K mg) : Ah P w K mg base CX0 8 T.FF T.EN ["gates"] (Jk K) := by
 refine T.FK.F.ok Eg (fun vs H Q E h => ?_) (fun cdv A outer s H vs Q E hr h => ?_)
 ·obtain ⟨l, as, gs, rfl, hl, ga, nd, h40, hne, ok, k⟩ := h
  rfl
 ·obtain ⟨l, as, gs, rfl, hl, ga, nd, h40, hne, ok, k⟩ := h
  have hu := Ad hr
  refine ⟨_, (AD (pst 1 Eg (pcl T.Bc (Br T) hr AV (AA (AJ A9 (by rfl) T.CY Bx (AA (pv 0) AC)) AC)))
   (AD (Af (ptc Kz (pv 1) Es) (AE (AM (pcl T.Ep (Fh T) hr AV (AA (pv 0) AC))))
    AS)
   (AE (AM (AZ (AA BD (AA (pv 1) AC))))))), ?_⟩
  walk_at "RD"
  walk_at "AUTO"
  intro D1 H1 as1 sg nD s1 e1 ga1 hp ha
  have lg := hp.length_eq
  have ok1 : ∀ g ∈ sg, OkG g := fun g hg => ok g (hp.mem_iff.mp hg)
  unfold Cs
  refine ⟨_, as1, sg, rfl, SqL.of e1, ga1, ha, by omega, ok1, fun H2 s2 nb => ?_, fun q H2 t s2 e2 ot all ow => ?_⟩
  ·walk_at "AUTO"
   unfold Dm
   exact ⟨_, as, gs, sg, rfl, (s1.trans s2).seq hl, ga.same (s1.trans s2), nd, h40, ok, hp, ha, nb, fun D H3 s3 ⟨q', t', f1, f2, ne', hf⟩ => k D H3 sg _ (s1.trans (s2.trans s3)) hp ha (.bar t' ne' (hf.perm hp.symm) rfl) (WV f1 f2)⟩
  ·walk_at "AUTO"
   exact k _ _ sg _ (s1.trans (s2.trans hs)) hp ha (.throw t ot all ow rfl) ⟨_, _, rfl, he, _, _, rfl, rfl, _, _, rfl, Qi (hs.get e2), rfl⟩
theorem Dc : AN ["gates", "found"] ["gates"] (AF CF) := by walk_at "SC"
def Ig (K : PySem.W.Frag) : Sp := fun vs H Q _ => ∃ (l : Addr) (as : List Addr) (gs : List G), vs = [.ref l] ∧ SqL K H l (as.map V.ref) ∧ Ab H as gs ∧ (gs.map G.p).Nodup ∧ 2 ≤ gs.length ∧ gs.length ≤ 40 ∧ (∀ g ∈ gs, OkG g) ∧ ∀ D H' sg x, AH H H' → sg.Perm gs → Asc sg → He id sg sg x → Enc H' x (.ref D) → Q (.ref D) H'
theorem Ib (T : Tx K mg) : Ah P w K mg base CX0 7 T.ES T.Dg ["gates"] (Ig K) := by
 refine T.EK.F.ok Dc (fun vs H Q E h => ?_) (fun cdv A outer s H vs Q E hr h => ?_)
 ·obtain ⟨l, as, gs, rfl, hl, ga, nd, l2, h40, ok, k⟩ := h
  rfl
 ·obtain ⟨l, as, gs, rfl, hl, ga, nd, l2, h40, ok, k⟩ := h
  have hu := Ad hr
  refine ⟨_, (AD (pst 1 Dc (pcl T.Bi (B9 T) hr AV (AA (AJ A9 (by rfl) T.CY Bx (AA (pv 0) AC)) AC)))
   (AD (Af (ptc Kz (pv 1) Es) (AE (AM (pcl T.Ep (Fh T) hr AV (AA (pv 0) AC))))
    AS)
   (AE (AM (AZ (AA BD (AA (pxi AL (pv 1) AB) (AA (pxi AL (pv 1) AB) (AA (pxi AL (pv 1) AB) AC))))))))), ?_⟩
  walk_at "RD"
  walk_at "AUTO"
  intro D1 H1 as1 sg nD s1 e1 ga1 hp ha
  have lg := hp.length_eq
  have ok1 : ∀ g ∈ sg, OkG g := fun g hg => ok g (hp.mem_iff.mp hg)
  unfold BU
  refine ⟨_, as1, sg, rfl, SqL.of e1, ga1, ha, by omega, by omega, ok1, fun H2 s2 nb => ?_, fun D H2 q t x y s2 fa fp => ?_⟩
  ·walk_at "AUTO"
   unfold Dm
   exact ⟨_, as, gs, sg, rfl, (s1.trans s2).seq hl, ga.same (s1.trans s2), nd, h40, ok, hp, ha, nb, fun D H3 s3 ⟨q', t', f1, f2, ne', hf⟩ => k D H3 sg _ (s1.trans (s2.trans s3)) hp ha (.bar t' ne' (hf.perm hp.symm) rfl) (WV f1 f2)⟩
  ·have eD := fa.eD
   walk_at "AUTO"
   exact k _ _ sg _ (s1.trans (s2.trans hs)) hp ha (.throw t x.p y.p fa.ok fa.all ⟨fa.ok, fa.all, x, fa.hx, y, fa.hy, fa.lt, fa.tx, fa.ty, fp, rfl, rfl⟩ rfl) ⟨_, _, rfl, he, _, _, rfl, rfl, _, _, rfl, Qi (hs.get fa.eq), _, _, rfl, rfl, _, _, rfl, rfl, rfl⟩
theorem LH : AN ["gate"] ["gate"] (AF Ds) := by walk_at "SC"
def Fd (K : PySem.W.Frag) : Sp := fun vs H Q _ => ∃ (a : Addr) (g : G), vs = [.ref a] ∧ SqT K H a (G.vs g) ∧ ∀ D H', AH H H' → H' D = some (.tup (G.vs (Bq g))) → Q (.ref D) H'
theorem Lc (T : Tx K mg) : Ah P w K mg base CX0 1 T.Go T.Fp ["gate"] (Fd K) := by
 refine T.Ge.F.ok LH (fun vs H Q E h => ?_) (fun cdv A outer s H vs Q E hr h => ?_)
 ·obtain ⟨a, g, rfl, ha, k⟩ := h
  rfl
 ·obtain ⟨a, g, rfl, ha, k⟩ := h
  have hu := Ad hr
  refine ⟨_, (AE (AM (AZ (AA (pxi AL (pv 0) AB) (AA (Fa DR (pxi AL (pv 0) AB)) (AA (Fa DR (pxi AL (pv 0) AB)) AC)))))), ?_⟩
  walk_at "RD"
  walk_at "AUTO"
  exact k _ _ hs he
theorem KC : AN ["throw"] ["throw"] (AF DL) := by walk_at "SC"
def FS (K : PySem.W.Frag) : Sp := fun vs H Q _ => ∃ (a : Addr) (t : Thr), vs = [.ref a] ∧ SqT K H a t.vs ∧ ∀ D H', AH H H' → H' D = some (.tup (MK t).vs) → Q (.ref D) H'
theorem KJ (T : Tx K mg) : Ah P w K mg base CX0 1 T.Fj T.FE ["throw"] (FS K) := by
 refine T.Fi.F.ok KC (fun vs H Q E h => ?_) (fun cdv A outer s H vs Q E hr h => ?_)
 ·obtain ⟨a, t, rfl, ha, k⟩ := h
  rfl
 ·obtain ⟨a, t, rfl, ha, k⟩ := h
  have hu := Ad hr
  refine ⟨_, (AE (AM (AZ (AA (Fa DR (pxi AL (pv 0) AB)) (AA (pxi AL (pv 0) AB) (AA (Fa DR (pxi AL (pv 0) AB)) (AA (pxi AL (pv 0) AB) AC))))))), ?_⟩
  walk_at "RD"
  walk_at "AUTO"
  exact k _ _ hs he
theorem Di : AN ["gates", "found"] ["gates"] (AF CP) := by walk_at "SC"
def IW (K : PySem.W.Frag) : Sp := fun vs H Q _ => ∃ (l : Addr) (as : List Addr) (gs : List G), vs = [.ref l] ∧ SqL K H l (as.map V.ref) ∧ Ab H as gs ∧ (gs.map G.p).Nodup ∧ 2 ≤ gs.length ∧ gs.length ≤ 40 ∧ (∀ g ∈ gs, OkG g) ∧ ∀ D H' sg x, AH H H' → sg.Perm gs → Asc sg → He MK sg (sg.map Bq) x → Enc H' x (.ref D) → Q (.ref D) H'
theorem Ic {H : Hp} : ∀ {ys : List V} {gs : List G}, Paired (fun v g => ∃ p, v = V.ref p ∧ H p = some (.tup (G.vs (Bq g)))) ys gs → ∃ as : List Addr, ys = as.map V.ref ∧ Ab H as (gs.map Bq)
 | _, _, .nil => ⟨[], rfl, .nil⟩
 | _, _, .cons ⟨p, e1, e2⟩ t => by
  obtain ⟨as, e, ga⟩ := Ic t
  exact ⟨p :: as, by rw [e1, e]; rfl, .cons e2 ga⟩
theorem IM (T : Tx K mg) : Ah P w K mg base CX0 7 T.EM T.DY ["gates"] (IW K) := by
 refine T.EY.F.ok Di (fun vs H Q E h => ?_) (fun cdv A outer s H vs Q E hr h => ?_)
 ·obtain ⟨l, as, gs, rfl, hl, ga, nd, l2, h40, ok, k⟩ := h
  rfl
 ·obtain ⟨l, as, gs, rfl, hl, ga, nd, l2, h40, ok, k⟩ := h
  have hu := Ad hr
  refine ⟨_, (AD (pst 1 Di (pcl T.Bi (B9 T) hr AV (AA (IJ rfl (⟨rfl, by decide +kernel, by decide +kernel, by decide +kernel, rfl, by decide +kernel, by with_unfolding_all rfl, by rfl, by rfl, by rfl⟩ : Az _ _ "gate" [] []) (BV (AJ A9 (by rfl) T.CY Bx (AA (pv 0) AC))) (fun _ _ _ _  => (pcl T.Ge (Lc T) hr AV (AA (pv 0) AC))) (fun _ _ _ _ => GP)) AC)))
   (AD (Af (ptc Kz (pv 1) Es) (AE (AM (pcl T.Ep (Fh T) hr AV (AA (pv 0) AC))))
    AS)
   (AE (AM (AZ (AA BD (AA (pcl T.Fi (KJ T) hr AV (AA (pxi AL (pv 1) AB) AC)) (AA (pxi AL (pv 1) AB) (AA (pxi AL (pv 1) AB) AC))))))))), ?_⟩
  delta IU
  walk_at "AUTO"
  intro D1 H1 as1 sg nD s1 e1 ga1 hp ha
  have lg := hp.length_eq
  have ok1 : ∀ g ∈ sg, OkG g := fun g hg => ok g (hp.mem_iff.mp hg)
  refine ⟨⟨_, SqL.of e1⟩, fun C nC => ?_⟩
  refine Mm (F := fun H v g => ∃ p, v = V.ref p ∧ H p = some (.tup (G.vs (Bq g)))) (fun _ _ _ _ s ⟨p, e1, e2⟩ => ⟨p, e1, s.get e2⟩) (fun H v g xs ys hD ⟨p, e1, e2⟩ => ⟨p, e1, by rw [AG (GG e2 hD (by intro z; cases z))]; exact e2⟩) (SqL.of e1) ga1 nC (by omega) ?_ ?_
  ·intro v g H2 R hg s2 ev hR
   delta Option.join_some
   walk_at "AUTO"
   unfold Fd
   exact ⟨_, g, rfl, SqT.of ev, fun D H3 s3 e3 => hR _ _ s3 ⟨D, rfl, e3⟩⟩
  intro H2 ys s2 e2 pr
  obtain ⟨as2, rfl, ga2⟩ := Ic pr
  unfold BU
  refine ⟨_, as2, sg.map Bq, rfl, SqL.of e2, ga2, Rq ha, by rw [List.length_map]; omega, by rw [List.length_map]; omega, fun g hg => ?_, fun H3 s3 nb => ?_, fun D H3 q t x y s3 fa fp => ?_⟩
  ·obtain ⟨g', hg', rfl⟩ := List.mem_map.mp hg
   exact Sn (ok1 g' hg')
  ·walk_at "AUTO"
   unfold Dm
   have s13 := s1.trans (s2.trans s3)
   exact ⟨_, as, gs, sg, rfl, s13.seq hl, ga.same s13, nd, h40, ok, hp, ha, fun z => nb (PY z), fun D H4 s4 ⟨q', t', f1, f2, ne', hf⟩ => k D H4 sg _ (s13.trans s4) hp ha (.bar t' ne' (hf.perm hp.symm) rfl) (WV f1 f2)⟩
  ·have eD := fa.eD
   walk_at "AUTO"
   unfold FS
   refine ⟨_, t, rfl, SqT.of fa.eq, fun D2 H4 s4 e4 => ?_⟩
   have eD4 := s4.get eD
   walk_at "AUTO"
   exact k _ _ sg _ (s1.trans (s2.trans (s3.trans (s4.trans hs)))) hp ha (.throw t x.p y.p (Rk fa.ok) (fun g hg => Q2.mpr (fa.all _ (List.mem_map.mpr ⟨g, hg, rfl⟩))) ⟨fa.ok, fa.all, x, fa.hx, y, fa.hy, fa.lt, fa.tx, fa.ty, fp, rfl, rfl⟩ rfl) ⟨_, _, rfl, he, _, _, rfl, rfl, _, _, rfl, Qi (hs.get e4), _, _, rfl, rfl, _, _, rfl, rfl, rfl⟩
theorem OL : AN ["run", "throw"] ["run", "throw"] (AF HR) := by walk_at "SC"
def Fx (K : PySem.W.Frag) : Sp := fun vs H Q _ => ∃ (l q : Addr) (bs : List Addr) (g : G) (rest : List G) (t : Thr), vs = [.ref l, .ref q] ∧ SqL K H l (bs.map V.ref) ∧ Ab H bs (g :: rest) ∧ H q = some (.tup t.vs) ∧ OkT t ∧ (∀ x ∈ g :: rest, t.pas x) ∧ ∀ D H', AH H H' → GE H' D ⟨g, rest, t⟩ → Q (.ref D) H'
theorem Ju (T : Tx K mg) : Ah P w K mg base CX0 1 T.LS T.J4 ["run", "throw"] (Fx K) := by
 refine T.Hi.F.ok OL (fun vs H Q E h => ?_) (fun cdv A outer s H vs Q E hr h => ?_)
 ·obtain ⟨l, q, bs, g, rest, t, rfl, hl, gb, eq, ot, all, k⟩ := h
  rfl
 ·obtain ⟨l, q, bs, g, rest, t, rfl, hl, gb, eq, ot, all, k⟩ := h
  have hu := Ad hr
  refine ⟨_, (AE (AM (AZ (AA (pxi AL (pxi AR (pv 0) AB) AB) (AA (pxi AL (pxi AR (pv 0) (Fa DR AB)) AB) (AA (pv 1) AC)))))), ?_⟩
  obtain ⟨a0, f0, e0⟩ := gb.get (i := 0) (g := g) rfl
  have i0 : atI (bs.map V.ref) 0 = some (V.ref a0) := Bo (i := 0) f0
  obtain ⟨pre, ep⟩ := L5 g rest t
  have gb2 := gb
  rw [ep] at gb2
  obtain ⟨cs, az, ec, ez⟩ := QV gb2
  have iz : atI (bs.map V.ref) (-1) = some (V.ref az) := by rw [ec, List.map_append]; exact SB _ _
  walk_at "RD"
  walk_at "AUTO"
  exact k _ _ hs ⟨q, he, hs.get eq, ot, all⟩
theorem Ai : AN ["gates", "runs", "run", "throw", "gate", "longer", "longer_throw"] ["gates"] (AF Dr) := by walk_at "SC"
def Lb (K : PySem.W.Frag) : Sp := fun vs H Q _ => ∃ (l : Addr) (as : List Addr) (gs : List G), vs = [.ref l] ∧ SqL K H l (as.map V.ref) ∧ Ab H as gs ∧ (gs.map G.p).Nodup ∧ gs.length ≤ 40 ∧ (∀ g ∈ gs, OkG g) ∧ ∀ D H' as' rs, H D = none → AH H H' → NK H' D as' rs gs → Nv rs → Q (.ref D) H'
def Wsh (l R S : Addr) (as1 : List Addr) (sg : List G) (H : Hp) : Nat → St → Hp → Prop := fun i σ H' => ∃ (L : Addr) (tv : V) (ra : List Addr) (rs : List Run) (bs : List Addr) (cur : List G) (o1 o2 o3 : Option V), σ = [some (.ref l), some (.ref R), some (.ref L), some tv, o1, o2, o3] ∧ AH H H' ∧ SE H' R S L as1 sg ra rs bs cur tv i
def Csh (l R S : Addr) (as1 : List Addr) (sg : List G) (i : Nat) (H : Hp) : St → Hp → Prop := fun σ H' => ∃ (L P : Addr) (tv pv : V) (ra : List Addr) (rs : List Run) (bs : List Addr) (cur : List G) (o1 : Option V), σ = [some (.ref l), some (.ref R), some (.ref L), some tv, o1, some (.ref P), some pv] ∧ AH H H' ∧ SE H' R S P as1 sg ra rs bs cur pv (i + 1)
def Csh2 (R : Addr) (gs : List G) (H : Hp) : St → Hp → Prop := fun σ H' => ∃ (o0 o2 o3 o4 o5 o6 : Option V) (ra : List Addr) (rs : List Run), σ = [o0, some (.ref R), o2, o3, o4, o5, o6] ∧ AH H H' ∧ NK H' R ra rs gs ∧ Nv rs
theorem Kf (T : Tx K mg) : Ah P w K mg base CX0 8 T.HE T.Fs ["gates"] (Lb K) := by
 refine T.HJ.F.ok Ai (fun vs H Q E h => ?_) (fun cdv A outer s H vs Q E hr h => ?_)
 ·obtain ⟨l, as, gs, rfl, hl, ga, nd, h40, ok, k⟩ := h
  rfl
 ·obtain ⟨l, as, gs, rfl, hl, ga, nd, h40, ok, k⟩ := h
  have hu := Ad hr
  refine ⟨_, (AD (pst 1 Ai (Ar AC))
   (AD (pst 2 Ai (Ar AC))
   (AD (pst 3 Ai Es)
   (AD (BF PassesOwn.never rfl (BV (AJ A9 (by rfl) T.CY Bx (AA (pv 0) AC))) (pgn 4 Ai)
    (AD (pst 5 Ai (AK P4 (pv 2) (Ar (AA (pv 4) AC))))
     (AD (pst 6 Ai (pcl T.Bc (Br T) hr AV (AA (pv 5) AC)))
     (IS (Af (ptc Kz (pv 6) Es) (AD (BB (Be (pv 1) (pcl T.Hi (Ju T) hr AV (AA (pv 2) (AA (pv 3) AC)))))
       (AD (pst 5 Ai (Ar (AA (pv 4) AC)))
       (AE (pst 6 Ai (pcl T.Bc (Br T) hr AV (AA (pv 5) AC))))))
      AS)
     (AD (pst 2 Ai (pv 5))
     (AE (pst 3 Ai (pv 6))))))))
   (IS (Af (ptc Jt (AJ AQ (by rfl) T.Ay Ao (AA (pv 2) AC)) AB) (AE (BB (Be (pv 1) (pcl T.Hi (Ju T) hr AV (AA (pv 2) (AA (pv 3) AC))))))
    AS)
   (AE (AM (pv 1)))))))), ?_⟩
  walk_at "RD"
  refine ⟨by decide, fun R H1 nR s1 eR => ?_⟩
  refine ⟨by decide, fun L H2 nL s2 eL => ?_⟩
  have s12 := s1.trans s2
  have hne : L ≠ R := fun z => by rw [z, eR] at nL; cases nL
  refine ⟨_, rfl, l, rfl, as, gs, s12.seq hl, ga.same s12, nd, by omega, fun S H3 as1 sg nS s3 e3 ga1 hp ha => ?_⟩
  have lg := hp.length_eq
  have ok1 : ∀ g ∈ sg, OkG g := fun g hg => ok g (hp.mem_iff.mp hg)
  have la1 := ga1.len
  have hneS : S ≠ R := fun z => by
   have := s2.get eR
   rw [z, this] at nS; cases nS
  refine ⟨S, rfl, ⟨_, SqL.of e3⟩, ER (xs := as1.map V.ref) (Wsh l R S as1 sg H) ⟨L, .non, [], [], [], [], none, none, none, rfl, s12.trans s3, ⟨s3.get (s2.get eR), .nil, s3.get eL, .nil, hne, e3, ga1, hneS, rfl, .inl ⟨rfl, rfl, rfl⟩⟩⟩ (fun i σ H4 _ ⟨_, _, _, _, _, _, _, _, _, _, _, sh⟩ => SqL.of sh.eS) ?_ ?_⟩
  ·clear hneS e3 ga1 nS eL nL hne s12 s2 s3 eR
   rintro i vv σ H4 hx ⟨L, tv, ra, rs, bs, cur, o1, o2, o3, rfl, s4, sh⟩
   have hi : i < sg.length := by
    have := (List.getElem?_eq_some_iff.mp hx).1
    rw [List.length_map] at this
    omega
   obtain ⟨ea, fe, ee⟩ := sh.gS.get (List.getElem?_eq_getElem hi)
   have ex : vv = V.ref ea := by
    rw [List.getElem?_map, fe] at hx
    exact (Option.some.inj hx).symm
   subst ex
   have gu := List.getElem?_eq_getElem hi
   have et : sg.take (i + 1) = sg.take i ++ [sg[i]] := List.take_succ_eq_append_getElem hi
   have ou := ok1 _ (List.getElem_mem hi)
   generalize sg[i] = u at ee gu et ou
   have eL := sh.eL
   have spl : (rs.flatMap Run.all ++ cur).length = i := by
    rw [sh.sp, List.length_take]; omega
   rw [List.length_append] at spl
   have hcl : cur.length ≤ i := by omega
   have lbs := sh.gb.len
   have okc : ∀ g ∈ cur, OkG g := fun g hg => ok1 g (List.mem_of_mem_take (i := i) (by rw [← sh.sp]; exact List.mem_append_right _ hg))
   have ascc : Asc (rs.flatMap Run.all ++ cur ++ [u]) := by rw [sh.sp, ← et]; exact ha.take' _
   have ascu : Asc (cur ++ [u]) := by rw [List.append_assoc] at ascc; exact ascc.right
   walk_at "RD"
   refine ⟨by decide, fun B H5 nB s5 eB => ⟨_, s5.get eL, _, eB, by rw [List.length_map, PySem.sizeLine_eq]; simp; omega, fun P H6 nP s6 eP => ?_⟩⟩
   have s46 := s5.trans s6
   have sh6 := sh.same s46
   have nPR : P ≠ R := fun z => by
    have := s5.get sh.eR
    rw [z, this] at nP; cases nP
   have eP' : H6 P = some (.lst ((bs ++ [ea]).map V.ref)) := by rw [eP, List.map_append]; rfl
   have gP : Ab H6 (bs ++ [ea]) (cur ++ [u]) := (sh.gb.same s46).snoc (s46.get ee)
   unfold Cs
   refine ⟨_, bs ++ [ea], cur ++ [u], rfl, SqL.of eP', gP, ascu, by rw [List.length_append]; simp; omega, fun g hg => ?_, fun H7 s7 nb => ?_, fun q H7 t s7 e7 ot all ow => ?_⟩
   ·rcases List.mem_append.mp hg with z | z
    ·exact okc g z
    ·rw [List.mem_singleton.mp z]; exact ou
   ·refine ⟨Csh l R S as1 sg i H, ?_, ?_⟩
    ·have s47 := s46.trans s7
     have sh7 := sh.same s47
     rcases sh7.th with ⟨z, _, _⟩ | ⟨q, t, g, rest, e1, e2, ot, all, ec, far⟩
     ·subst z
      exact absurd (Jg (by simp)) nb
     subst e1
     subst ec
     have eR7 := sh7.eR
     have eL7 := sh7.eL
     walk_at "RD"
     walk_at "AUTO"
     unfold Fx
     refine ⟨_, _, bs, g, rest, t, rfl, SqL.of eL7, sh7.gb, e2, ot, all, fun D H8 s8 rn => ?_⟩
     have sh8 := sh7.same s8
     have lra := Paired.length sh8.at_
     have lrs := NX rs
     refine ⟨_, sh8.eR, by rw [List.length_map, PySem.sizeLine_eq]; omega, ?_⟩
     have hR8 := sh8.eR
     have sHU : AH H (L2.upd H8 R (.lst (ra.map V.ref ++ [.ref D]))) := (s4.trans (s47.trans s8)).updFresh nR
     have eRU : L2.upd H8 R (.lst (ra.map V.ref ++ [.ref D])) R = some (.lst ((ra ++ [D]).map V.ref)) := by rw [AO, List.map_append]; rfl
     have eSU : L2.upd H8 R (.lst (ra.map V.ref ++ [.ref D])) S = some (.lst (as1.map V.ref)) := by rw [AG sh8.neS]; exact sh8.eS
     have gSU := sh8.gS.upd (u := .lst (ra.map V.ref ++ [.ref D])) hR8 (by intro ys z; cases z)
     have eaU : L2.upd H8 R (.lst (ra.map V.ref ++ [.ref D])) ea = some (.tup (G.vs u)) := by
      have e8 := s8.get (s47.get ee)
      rw [AG (GG e8 hR8 (by intro z; cases z))]
      exact e8
     have atU : Paired (GE (L2.upd H8 R (.lst (ra.map V.ref ++ [.ref D])))) (ra ++ [D]) (rs ++ [⟨g, rest, t⟩]) := Paired.snoc (Paired.mapP sh8.at_ fun _ _ e => e.updL hR8) (rn.updL hR8)
     generalize L2.upd H8 R (.lst (ra.map V.ref ++ [.ref D])) = HU at sHU eRU eSU gSU eaU atU
     refine ⟨by decide, fun B2 H9 nB2 s9 eB2 => ?_⟩
     have nB2R : B2 ≠ R := fun z => by rw [z, eRU] at nB2; cases nB2
     refine ⟨[ea], SqL.of eB2, [u], .cons (s9.get eaU) .nil, List.pairwise_singleton _ _, by simp, fun g hg => by rw [List.mem_singleton.mp hg]; exact ou, fun _ _ z => absurd (Jg (by simp)) z, fun q2 HA t2 sA eA ot2 all2 ow2 => ?_⟩
     have sUA := s9.trans sA
     refine ⟨L, B2, _, .ref q2, ra ++ [D], rs ++ [⟨g, rest, t⟩], [ea], [u], _, rfl, sHU.trans sUA, ⟨sUA.get eRU, Paired.mapP atU fun _ _ e => e.same sUA, sA.get eB2, .cons (sUA.get eaU) .nil, nB2R, sUA.get eSU, gSU.same sUA, sh8.neS, ?_, .inr ⟨q2, t2, u, [], rfl, eA, ot2, all2, rfl, Qd far nb ow2⟩⟩⟩
     rw [List.flatMap_append, N0, et, ← sh8.sp]
    ·rintro σ H8 ⟨L, P, tv, pv, ra, rs, bs, cur, o1, rfl, s8, sh⟩
     walk_at "RD"
     exact ⟨P, pv, ra, rs, bs, cur, _, _, _, rfl, s8, sh⟩
   ·refine ⟨Csh l R S as1 sg i H, ?_, ?_⟩
    ·walk_at "RD"
     walk_at "AUTO"
     have sh7 := sh6.same s7
     have far' : ∃ g rest, cur ++ [u] = g :: rest ∧ Oy (rs ++ [⟨g, rest, t⟩]) := by
      rcases sh7.th with ⟨z, z2, _⟩ | ⟨q, t', g, rest, e1, e2, ot', all', ec, far⟩
      ·subst z
       subst z2
       exact ⟨u, [], rfl, Q9 ow⟩
      ·subst ec
       exact ⟨g, rest ++ [u], rfl, Qt far rfl ow⟩
     obtain ⟨g, rest, ec, far⟩ := far'
     refine ⟨L, P, _, .ref q, ra, rs, bs ++ [ea], cur ++ [u], _, rfl, s4.trans (s46.trans s7), ⟨sh7.eR, sh7.at_, s7.get eP', gP.same s7, nPR, sh7.eS, sh7.gS, sh7.neS, ?_, .inr ⟨q, t, g, rest, rfl, e7, ot, all, ec, far⟩⟩⟩
     rw [et, ← sh.sp, List.append_assoc]
    ·rintro σ H8 ⟨L, P, tv, pv, ra, rs, bs, cur, o1, rfl, s8, sh⟩
     walk_at "RD"
     exact ⟨P, pv, ra, rs, bs, cur, _, _, _, rfl, s8, sh⟩
  ·rintro σ H4 ⟨L, tv, ra, rs, bs, cur, o1, o2, o3, rfl, s4, sh⟩
   rw [List.length_map, la1] at sh
   have eL := sh.eL
   have lbs := sh.gb.len
   have spt := sh.sp
   rw [List.take_length] at spt
   refine ⟨Csh2 R gs H, ?_, ?_⟩
   ·walk_at "RD"
    walk_at "AUTO"
    rw [List.length_map, lbs]
    rcases sh.th with ⟨z, z2, z3⟩ | ⟨q, t, g, rest, e1, e2, ot, all, ec, far⟩
    ·subst z
     subst z2
     rw [if_neg (by simp)]
     have e0 : sg = [] := by simpa using spt.symm
     exact ⟨_, _, _, _, _, _, ra, [], rfl, s4, ⟨sh.eR, sh.at_, by rw [e0] at hp; exact hp, by simp [Asc], trivial⟩, fun r hr => absurd hr (by simp)⟩
    ·subst e1
     subst ec
     have eR := sh.eR
     rw [if_pos (by simp)]
     walk_at "AUTO"
     unfold Fx
     refine ⟨_, _, bs, g, rest, t, rfl, SqL.of eL, sh.gb, e2, ot, all, fun D H8 s8 rn => ?_⟩
     have sh8 := sh.same s8
     have lra := Paired.length sh8.at_
     have lrs := NX rs
     have spl := congrArg List.length spt
     rw [List.length_append] at spl
     have hR8 := sh8.eR
     refine ⟨_, sh8.eR, by rw [List.length_map, PySem.sizeLine_eq]; omega, ?_⟩
     have spl2 : (rs ++ [(⟨g, rest, t⟩ : Run)]).flatMap Run.all = sg := by rw [List.flatMap_append, N0]; exact spt
     refine ⟨_, _, _, _, _, _, ra ++ [D], rs ++ [⟨g, rest, t⟩], rfl, (s4.trans s8).updFresh nR, ⟨by rw [AO, List.map_append]; rfl, Paired.snoc (Paired.mapP sh8.at_ fun _ _ e => e.updL hR8) (rn.updL hR8), by rw [spl2]; exact hp, by rw [spl2]; exact ha, far.1⟩, far.2⟩
   ·rintro σ H5 ⟨o0, o2, o3, o4, o5, o6, ra, rs, rfl, s5, rr, ow⟩
    walk_at "RD"
    exact k R H5 ra rs nR s5 rr ow
theorem BR : AN ["ordered", "throws", "index", "earlier", "later"] ["ordered"] (AF DI) := by walk_at "SC"
structure TrA (H : Hp) (TL : Addr) (gs : List G) (n : Nat) (don : Nat → Nat → Prop) (qs : List Addr) (ts : List Thr) : Prop where
 eT : H TL = some (.lst (qs.map V.ref))
 pr : Paired (fun q (t : Thr) => H q = some (.tup t.vs)) qs ts
 ok : ∀ t ∈ ts, OkT t
 one : ∃ t ∈ ts, ∃ g ∈ gs, t.pas g
 len : qs.length ≤ n
 two : ∀ (i j : Nat) (x y : G), gs[i]? = some x → gs[j]? = some y → i < j → don i j → ∃ t ∈ ts, ∀ g : G, t.pas g ↔ ED (x.f * y.p - y.h * x.p) (y.h - x.f) (y.p - x.p) g
theorem TrA.same {H H' : Hp} {TL : Addr} {gs : List G} {n : Nat} {don : Nat → Nat → Prop} {qs : List Addr} {ts : List Thr} (h : TrA H TL gs n don qs ts) (s : AH H H') : TrA H' TL gs n don qs ts := ⟨s.get h.eT, Paired.mapP h.pr fun _ _ e => s.get e, h.ok, h.one, h.len, h.two⟩
def KR (K : PySem.W.Frag) : Sp := fun vs H Q _ => ∃ (l : Addr) (as : List Addr) (gs : List G), vs = [.ref l] ∧ SqL K H l (as.map V.ref) ∧ Ab H as gs ∧ Asc gs ∧ 1 ≤ gs.length ∧ gs.length ≤ 12 ∧ (∀ g ∈ gs, OkG g) ∧ ∀ (D : Addr) (H' : Hp) (qs : List Addr) (ts : List Thr), H D = none → AH H H' → H' D = some (.lst (qs.map V.ref)) → Paired (fun q (t : Thr) => H' q = some (.tup t.vs)) qs ts → qs.length ≤ 200 → TR gs ts → ts = JU gs → Q (.ref D) H'
def Wm1 (l TL : Addr) (gs : List G) (H : Hp) : Nat → St → Hp → Prop := fun i σ H' => ∃ (o2 o3 o4 : Option V) (qs : List Addr) (ts : List Thr), σ = [some (.ref l), some (.ref TL), o2, o3, o4] ∧ AH H H' ∧ TrA H' TL gs (1 + 12 * i) (fun a _ => a < i) qs ts ∧ ts = tri gs i 0
def Wm2 (l TL ea : Addr) (gs : List G) (H : Hp) (i : Nat) : Nat → St → Hp → Prop := fun j σ H' => ∃ (o4 : Option V) (qs : List Addr) (ts : List Thr), σ = [some (.ref l), some (.ref TL), some (.int (i : Int)), some (.ref ea), o4] ∧ AH H H' ∧ TrA H' TL gs (1 + 12 * i + j) (fun a c => a < i ∨ a = i ∧ c < i + 1 + j) qs ts ∧ ts = tri gs i j
theorem KB (T : Tx K mg) : Ah P w K mg base CX0 8 T.Fk T.FP ["ordered"] (KR K) := by
 refine T.Fo.F.ok BR (fun vs H Q E h => ?_) (fun cdv A outer s H vs Q E hr h => ?_)
 ·obtain ⟨l, as, gs, rfl, hl, ga, ha, l1, l12, ok, k⟩ := h
  rfl
 ·obtain ⟨l, as, gs, rfl, hl, ga, ha, l1, l12, ok, k⟩ := h
  have hu := Ad hr
  refine ⟨_, (AD (pst 1 BR (Ar (AA (pcl T.Bc (Br T) hr AV (AA (LP Kn (pv 0) Nl (Nk AB)) AC)) AC)))
   (AD (BF PassesOwn.never rfl (P3 (by rfl) T.J5 (AA (pv 0) AC)) (NL (n := 2) rfl (B7 (pgn 2 BR) (B7 (pgn 3 BR) KZ)))
    (AE (BF PassesOwn.never rfl (BV (LP Kn (pv 0) (Nk (AK Al (pv 2) AB)) Nl)) (pgn 4 BR)
      (AE (BB (Be (pv 1) (pcl T.Jb (LF T) hr AV (AA (pxi AL (pv 3) AB) (AA (pxi AL (pv 3) AB) (AA (pxi AL (pv 4) AB) (AA (pxi AL (pv 4) AB) AC)))))))))))
   (AE (AM (pv 1))))), ?_⟩
  have la := ga.len
  have h0 : 0 < gs.length := by omega
  walk_at "Q"
  walk_at "RD"
  walk_at "AUTO"
  have he' : H' p = some (.lst ((as.take 1).map V.ref)) := by rw [he, show (1 : Int) = ((1 : Nat) : Int) from rfl, O2, List.map_take]
  have gaT := (ga.same hs).takeG 1
  have lT : (gs.take 1).length ≤ 1 := by rw [List.length_take]; omega
  refine ⟨p, as.take 1, gs.take 1, rfl, SqL.of he', gaT, List.Pairwise.sublist (List.take_sublist _ _) ha, by omega, fun g hg => ok g (List.mem_of_mem_take hg), fun H1 s1 z => absurd (Jg (by omega)) z, fun q0 H1 t0 s1 e1 ot0 al0 ow0 => ⟨by decide, fun TL H2 nT s2 eT => ?_⟩⟩
  walk_at "NX"
  have s02 := hs.trans (s1.trans s2)
  have nT0 : H TL = none := (hs.trans s1).free nT
  have one0 : ∃ t ∈ [t0], ∃ g ∈ gs, t.pas g := ⟨t0, by simp, gs[0], List.getElem_mem h0, al0 _ (by
   have := List.take_succ_eq_append_getElem (l := gs) (i := 0) h0
   rw [this]; simp)⟩
  clear he' gaT lT al0 nT he hn
  walk_at "Q"
  refine ⟨_, rfl, l, rfl, ⟨_, s02.seq hl⟩, OO (xs := as.map V.ref) (Wm1 l TL gs H) ⟨none, none, none, [q0], [t0], rfl, s02, ⟨eT, .cons (s2.get e1) .nil, fun t ht => by rw [List.mem_singleton.mp ht]; exact ot0, one0, by simp, fun _ _ _ _ _ _ _ z => absurd z (by omega)⟩, Qj h0 ow0⟩ (fun i σ H3 _ ⟨_, _, _, _, _, _, s3, _⟩ => s3.seq hl) ?_ ?_⟩
  ·rintro i vv σ H3 pp H4 hx ⟨o2, o3, o4, qs, ts, rfl, s3, tr, ts0⟩ hn s4 e4
   have hi : i < gs.length := by
    have := (List.getElem?_eq_some_iff.mp hx).1
    rw [List.length_map] at this
    omega
   obtain ⟨ea, fe, ee⟩ := ga.get (List.getElem?_eq_getElem hi)
   have ex : vv = V.ref ea := by
    rw [List.getElem?_map, fe] at hx
    exact (Option.some.inj hx).symm
   subst ex
   have s04 := s3.trans s4
   have gu := List.getElem?_eq_getElem hi
   generalize hu0 : gs[i] = u at ee gu
   have ou := ok u (List.mem_of_getElem? gu)
   delta JC EQ JV
   refine ⟨_, SqT.of e4, rfl, _, _, rfl, _, _, rfl, rfl, ?_⟩
   refine ⟨_, rfl, _, rfl, _, _, rfl, rfl, _, rfl, l, rfl, _, s04.seq hl, fun S H5 nS s5 eS => ?_⟩
   rw [show (i : Int) + 1 = ((i + 1 : Nat) : Int) by omega, Mo, ← List.map_drop] at eS
   have s05 := s04.trans s5
   have trS := (tr.same s4).same s5
   have neS : S ≠ TL := fun z => by
    have := (tr.same s4).eT
    rw [z, this] at nS
    cases nS
   refine ⟨S, rfl, ⟨_, SqL.of eS⟩, ER (xs := (as.drop (i + 1)).map V.ref) (fun j σ H' => Wm2 l TL ea gs H i j σ H' ∧ H' S = some (.lst ((as.drop (i + 1)).map V.ref))) ⟨⟨o4, qs, ts, rfl, s05, ⟨trS.eT, trS.pr, trS.ok, trS.one, by have := trS.len; omega, fun a c x y h1 h2 h3 h4 => trS.two a c x y h1 h2 h3 (by omega)⟩, ts0⟩, eS⟩ (fun j σ H6 _ ⟨_, z⟩ => SqL.of z) ?_ ?_⟩
   ·rintro j vv σ H6 hx ⟨⟨o4, qs, ts, rfl, s6, tr, tsj⟩, eS6⟩
    have hj : i + 1 + j < gs.length := by
     have := (List.getElem?_eq_some_iff.mp hx).1
     rw [List.length_map, List.length_drop] at this
     omega
    obtain ⟨la', fl, el⟩ := ga.get (List.getElem?_eq_getElem hj)
    have ex : vv = V.ref la' := by
     rw [List.getElem?_map, List.getElem?_drop, fl] at hx
     exact (Option.some.inj hx).symm
    subst ex
    have gv := List.getElem?_eq_getElem hj
    generalize hv0 : gs[i + 1 + j] = v at el gv
    have ov := ok v (List.mem_of_getElem? gv)
    have eu6 := s6.get ee
    have ev6 := s6.get el
    have luv := BQ ha gu gv (by omega)
    obtain ⟨p1, p2, p3, p4, p5⟩ := id ou
    obtain ⟨q1, q2, q3, q4, q5⟩ := id ov
    delta HS
    refine ⟨⟨_, tr.eT⟩, _, SqT.of eu6, _, rfl, _, SqT.of eu6, _, rfl, _, SqT.of ev6, _, rfl, _, SqT.of ev6, _, rfl, _, rfl, _, rfl, _, rfl, _, rfl, by omega, by omega, by omega, by omega, by omega, fun q H7 x1 y1 z1 v1 s7 e7 Lw1 Lw2 => ?_⟩
    have lo := OA luv Lw1 Lw2
    have ot := P5 (by omega) (by omega) (by omega) (by omega) Lw1 Lw2
    have tr7 := tr.same s7
    have ll := tr.len
    have nq : ∀ b xs, H7 b = some (.tup xs) → b ≠ TL := fun b xs e z => by rw [z, tr7.eT] at e; cases e
    refine ⟨_, tr7.eT, by rw [List.length_map, PySem.sizeLine_eq]; omega, ⟨_, qs ++ [q], ts ++ [⟨x1, y1, z1, v1⟩], rfl, (s6.trans s7).updFresh nT0, ⟨by rw [AO, List.map_append]; rfl, ?_, ?_, ?_, ?_, ?_⟩, Q1 tsj gu gv luv ⟨Lw1, Lw2⟩⟩, ?_⟩
    ·exact Paired.snoc (Paired.mapP tr7.pr fun b t e => (AG (nq b _ e)).trans e) ((AG (nq q _ e7)).trans e7)
    ·intro t ht
     rcases List.mem_append.mp ht with z | z
     ·exact tr7.ok t z
     ·rw [List.mem_singleton.mp z]; exact ot
    ·obtain ⟨t, ht, g', hg', pg'⟩ := tr7.one
     exact ⟨t, List.mem_append_left _ ht, g', hg', pg'⟩
    ·rw [List.length_append]
     simp only [List.length_cons, List.length_nil]
     omega
    ·intro a c x y h1 h2 h3 h4
     by_cases hc : a < i ∨ a = i ∧ c < i + 1 + j
     ·obtain ⟨t, ht, ht2⟩ := tr7.two a c x y h1 h2 h3 hc
      exact ⟨t, List.mem_append_left _ ht, ht2⟩
     ·have ea' : a = i := by omega
      have ec' : c = i + 1 + j := by omega
      subst ea' ec'
      rw [gu] at h1
      rw [gv] at h2
      cases h1
      cases h2
      exact ⟨_, List.mem_append_right _ (List.mem_singleton.mpr rfl), lo.1⟩
    ·exact (AG neS).trans (s7.get eS6)
   ·rintro σ H6 ⟨⟨o4, qs, ts, rfl, s6, tr, tsj⟩, eS6⟩
    refine ⟨_, _, _, qs, ts, rfl, s6, ⟨tr.eT, tr.pr, tr.ok, tr.one, ?_, fun a c x y h1 h2 h3 h4 => tr.two a c x y h1 h2 h3 ?_⟩, by rw [tsj, List.length_map, List.length_drop, la, ← List.length_drop]; exact SK gs i⟩
    ·have := tr.len
     rw [List.length_map, List.length_drop] at this
     omega
    ·have : c < gs.length := (List.getElem?_eq_some_iff.mp h2).1
     rw [List.length_map, List.length_drop, la]
     omega
  rintro σ H3 ⟨o2, o3, o4, qs, ts, rfl, s3, tr, tse⟩
  refine hM _ _ ?_
  clear hM M
  walk_at "RD"
  refine k TL H3 qs ts nT0 s3 tr.eT tr.pr ?_ ⟨fun z => ?_, tr.ok, tr.one, fun x hx y hy lt => ?_⟩ (by rw [tse, List.length_map, la]; exact SZ gs)
  ·have := tr.len
   rw [List.length_map] at this
   omega
  ·obtain ⟨t, ht, _⟩ := tr.one
   rw [z] at ht
   exact absurd ht (by simp)
  ·obtain ⟨a, ea⟩ := List.mem_iff_getElem?.mp hx
   obtain ⟨c, ec⟩ := List.mem_iff_getElem?.mp hy
   have hac := EZ ha ea ec lt
   exact tr.two a c x y ea ec hac (by rw [List.length_map, la]; exact (List.getElem?_eq_some_iff.mp ea).1)
theorem EB : AN ["gates", "ordered", "tried"] ["gates"] (AF Er) := by walk_at "SC"
def MF (K : PySem.W.Frag) : Sp := fun vs H Q _ => ∃ (l : Addr) (as : List Addr) (gs : List G), vs = [.ref l] ∧ SqL K H l (as.map V.ref) ∧ Ab H as gs ∧ (gs.map G.p).Nodup ∧ 1 ≤ gs.length ∧ gs.length ≤ 12 ∧ (∀ g ∈ gs, OkG g) ∧ LM.Tbl H DW Hh PK ∧ ∀ D H' L q t sg, H L = none → Bn DW H H' → LM.Tbl H' DW Hh PK → Fl H' D gs L q t sg → R9 sg t → Q (.ref D) H'
theorem Lo (T : Tx K mg) : Ah P w K mg base CX0 9 T.Iv T.Dy ["gates"] (MF K) := by
 refine LM.Fun.okL T.Io.F T.Lp EB (fun vs H Q E h => ?_) (fun cdv A outer s H vs Q E la hr h => ?_)
 ·obtain ⟨l, as, gs, rfl, hl, ga, nd, l1, l12, ok, tb, k⟩ := h
  rfl
 ·obtain ⟨l, as, gs, rfl, hl, ga, nd, l1, l12, ok, tb, k⟩ := h
  have hu := Ad hr
  refine ⟨_, (AD (pst 1 EB (AJ A9 (by rfl) T.CY Bx (AA (pv 0) AC)))
   (AD (HV (i := 2) rfl EB.nd rfl (Or.inl rfl) (⟨rfl, by decide +kernel, by decide +kernel, by decide +kernel, rfl, by decide +kernel, by with_unfolding_all rfl, by rfl, by rfl, by rfl⟩ : Az _ _ "throw" ["ordered"] [1]) (BV (pcl T.Fo (KB T) hr AV (AA (pv 1) AC))) (fun _ _ _ _  => (AZ (AA (pcl T.Ct (Eb T) hr AV (AA (pv 0) (AA (pv 1) AC))) (AA (pv 0) AC)))) (fun _ _ _ _ => GP))
   (AE (AM (LM.Sq (x := "told") (by rfl) T.Py T.Ay (hr.mono (by decide)) la (by exact ⟨rfl, rfl, fun _ _ _ _ _ _ _ _ => rfl, rfl, rfl, by decide, rfl, rfl, rfl, by decide, fun _ => rfl⟩) (pv 2)))))), ?_⟩
  have la := ga.len
  walk_at "Q"
  walk_at "RD"
  walk_at "AUTO"
  intro S H1 as1 sg nS s1 eS ga1 hp ha
  walk_at "NX"
  have lsg : sg.length = gs.length := hp.length_eq
  have oks : ∀ g ∈ sg, OkG g := fun g hg => ok g (hp.mem_iff.mp hg)
  walk_at "Q"
  refine ⟨_, rfl, S, as1, sg, rfl, SqL.of eS, ga1, ha, by omega, by omega, oks, fun TL H2 qs ts nT s2 eT pr lq tr tF => ⟨TL, rfl, ⟨_, SqL.of eT⟩, fun D nD => ?_⟩⟩
  refine QB (as := qs) (bs := ts) (fun H q t => H q = some (.tup t.vs)) (fun _ _ _ _ s e => s.get e)
   (fun H y q t => ∃ p L, y = V.ref p ∧ L ≠ D ∧ H1 L = none ∧ H p = some (.tup [.ref L, .ref q]) ∧ H L = some (.lst ((AU (sg.filter (JL t.a t.b t.c t.d))).map V.int)) ∧ H q = some (.tup t.vs))
   (fun _ _ _ _ _ s ⟨p, L, e1, e2, e3, e4, e5, e6⟩ => ⟨p, L, e1, e2, e3, s.get e4, s.get e5, s.get e6⟩) ?_ (SqL.of eT) pr nD (by omega) ?_ ?_
  ·rintro H3 v q t xs ys h1 h2 ⟨p, L, e1, e2, e3, e4, e5, e6⟩
   have n1 : p ≠ D := fun z => by rw [z, h1] at e4; cases e4
   have n2 : q ≠ D := fun z => by rw [z, h1] at e6; cases e6
   exact ⟨p, L, e1, e2, e3, (AG n1).trans e4, (AG e2).trans e5, (AG n2).trans e6⟩
  ·intro q t H3 R ht s3 hD eq kR
   have ot := tr.ok t ht
   refine ⟨_, rfl, _, rfl, q, S, t.a, t.b, t.c, t.d, as1, sg, rfl, eq, Pq ot.b0 ot.d0 ot.a1 ot.b1 ot.c1 ot.d1, (s2.trans s3).seq (SqL.of eS), ga1.same (s2.trans s3), by omega, oks, fun L H4 nL s4 eL => ?_⟩
   refine ⟨_, rfl, by show 2 ≤ _; rw [PySem.sizeLine_eq]; decide, fun p H5 nP s5 eP => ?_⟩
   exact kR _ _ (s4.trans s5) ⟨p, L, rfl, fun z => hD (by rw [← z]; exact nL), (s2.trans s3).free nL, eP, s5.get eL, (s4.trans s5).get eq⟩
  ·intro H3 ys s3 eD ly prs
   walk_at "NX"
   have lqt : qs.length = ts.length := Paired.length pr
   have s03 := s1.trans (s2.trans s3)
   have tb3 := DN tb s03
   obtain ⟨pt, ept⟩ := tb3.tab
   have l0 : 0 < ts.length := List.length_pos_iff.mpr tr.ne
   refine ⟨_, rfl, D, ys, (fun i => match ts[i]? with | some t => JM sg t | none => 0), rfl, SqL.of eD, by omega, tb3, fun i y hy => ?_, fun i y H4 hy best tb4 k4 => ?_⟩
   ·obtain ⟨q, t, h1, h2, p, L, rfl, nLD, nL, e4, e5, e6⟩ := prs i y hy
    refine ⟨p, L, [.ref q], _, rfl, SqT.of e4, SqL.of e5, ?_⟩
    dsimp only
    rw [h2, List.length_map, AU, List.length_map]
    rfl
   ·obtain ⟨q, t, h1, h2, p, L, rfl, nLD, nL, e4, e5, e6⟩ := prs i y hy
    have n1 : p ≠ DW := fun z => by rw [z, ept] at e4; cases e4
    have n2 : L ≠ DW := fun z => by rw [z, ept] at e5; cases e5
    have n3 : q ≠ DW := fun z => by rw [z, ept] at e6; cases e6
    refine k p H4 L q t sg (s1.free nL) (fun b u n e => k4 b u n (s03.get e)) tb4 ⟨k4 p _ n1 e4, k4 L _ n2 e5, k4 q _ n3 e6, tr.ok t (List.mem_of_getElem? h2), hp, ha, fun u w m hm ps hs hpp => O6 tr oks ha (fun t' ht' => ?_) u w m hm ps hs hpp⟩ ?_
    rotate_left
    ·rw [tF] at h2 best lqt
     refine ⟨i, h2, fun j t' ej => ?_⟩
     have hj := (List.getElem?_eq_some_iff.mp ej).1
     have := best j (by omega)
     dsimp only at this
     rw [ej, h2] at this
     exact this
    obtain ⟨j, ej⟩ := List.mem_iff_getElem?.mp ht'
    have hj := (List.getElem?_eq_some_iff.mp ej).1
    have := (best j (by omega)).1
    dsimp only at this
    rw [ej, h2] at this
    exact this
theorem Gs : AN ["gate", "number"] ["gate"] (AF Ev) := by walk_at "SC"
def L7 {K : PySem.W.Frag} {mg : Str → Option Value} (T : Tx K mg) : Sp := fun vs H Q E => ∃ (q : Addr) (p f h : Int), vs = [.ref q] ∧ H q = some (.tup [.int p, .int f, .int h]) ∧ (∀ e, M2 p f h = some e → E (T.err e) none H) ∧ (M2 p f h = none → Q .non H)
theorem Ln (T : Tx K mg) : Ah P w K mg base (CXE P w) 1 T.II T.Gr ["gate"] (L7 T) := by
 refine T.Hq.F.okX Gs (fun vs H Q E h => ?_) (fun cdv A outer s H vs Q E hr h => ?_)
 ·obtain ⟨q, p, f, h, rfl, hq, kE, k⟩ := h
  rfl
 ·obtain ⟨q, p, f, h, rfl, hq, kE, k⟩ := h
  have hu := Ad hr
  refine ⟨_, (AD (Af (ptc Jt (pxi AL (pv 0) AB) (pxi AL (pv 0) AB)) (AE (BH EI rfl T.NW (by rfl) T.NJ (AA BD AC)))
    AS)
   (AE (BF VE rfl (R5 (pv 0)) (pgn 1 Gs)
    (AE (Af (Cd (ptc FN (pv 1) (Da (v := .int (-1000)) (by rfl) T.SQ T.Sk)) (By (ptc Jt (pv 1) (Da (v := .int (1000)) (by rfl) T.O9 T.PF)))).pt (AE (BH EI rfl T.Lv (by rfl) T.Lu (AA BD AC)))
      AS))))), ?_⟩
  walk_at "RD"
  walk_at "AUTO"
  unfold M2 at kE k
  by_cases hf : h < f
  ·rw [if_pos (decide_eq_true hf)]
   rw [if_pos hf] at kE
   exact ⟨by decide, kE _ rfl⟩
  rw [if_neg (fun z => hf (of_decide_eq_true z))]
  rw [if_neg hf] at kE k
  refine ⟨_, rfl, q, rfl, ⟨_, SqT.of hq⟩, P1 (xs := [V.int p, V.int f, V.int h]) (fun i σ H' => ∃ o, σ = [some (.ref q), o] ∧ H' = H ∧ ∀ x ∈ [p, f, h].take i, InB x) ⟨none, rfl, rfl, fun _ z => absurd z (by simp)⟩ (fun _ _ _ _ ⟨_, _, e, _⟩ => SqT.of (e ▸ hq)) ?_ ?_⟩
  ·rintro i v σ H1 hx ⟨o, rfl, rfl, hi⟩
   have hil : i < [p, f, h].length := (List.getElem?_eq_some_iff.mp hx).1
   have ev : v = V.int [p, f, h][i] := by
    have hx : ([p, f, h].map V.int)[i]? = some v := hx
    rw [List.getElem?_map, List.getElem?_eq_getElem hil] at hx
    exact (Option.some.inj hx).symm
   subst ev
   have hmem := List.getElem_mem hil
   have htk : [p, f, h].take (i + 1) = [p, f, h].take i ++ [[p, f, h][i]] := List.take_succ_eq_append_getElem hil
   generalize [p, f, h][i] = x at *
   walk_at "RD"
   by_cases h1 : x < -1000
   ·rw [if_pos (decide_eq_true h1)]
    rw [if_neg (fun z => by simp at hmem; rcases hmem with rfl | rfl | rfl <;> omega)] at kE
    exact ⟨by decide, kE _ rfl⟩
   rw [if_neg (fun z => h1 (of_decide_eq_true z))]
   by_cases h2 : 1000 < x
   ·rw [if_pos (decide_eq_true h2)]
    rw [if_neg (fun z => by simp at hmem; rcases hmem with rfl | rfl | rfl <;> omega)] at kE
    exact ⟨by decide, kE _ rfl⟩
   rw [if_neg (fun z => h2 (of_decide_eq_true z))]
   refine ⟨⟨_, rfl⟩, fun y hy => ?_⟩
   rw [htk] at hy
   rcases List.mem_append.mp hy with z | z
   ·exact hi y z
   ·rw [List.mem_singleton.mp z]
    exact ⟨by omega, by omega⟩
  ·rintro σ H1 ⟨o, rfl, rfl, hi⟩
   exact k (if_pos ⟨hi p (by simp), hi f (by simp), hi h (by simp)⟩)
theorem KG : AN ["places"] ["places"] (AF DQ) := by walk_at "SC"
def KP {K : PySem.W.Frag} {mg : Str → Option Value} (T : Tx K mg) : Sp := fun vs H Q E => ∃ (l : Addr) (ps : List Int), vs = [.ref l] ∧ SqL K H l (ps.map V.int) ∧ ps.length < 4000 ∧ (EC ps → ∀ H', AH H H' → E (T.err .badlist) none H') ∧ (¬ EC ps → ∀ H', AH H H' → Q .non H')
theorem KL (T : Tx K mg) : Ah P w K mg base (CXE P w) 1 T.FX T.E8 ["places"] (KP T) := by
 refine T.F6.F.okX KG (fun vs H Q E h => ?_) (fun cdv A outer s H vs Q E hr h => ?_)
 ·obtain ⟨l, ps, rfl, hl, h4, kE, k⟩ := h
  rfl
 ·obtain ⟨l, ps, rfl, hl, h4, kE, k⟩ := h
  have hu := Ad hr
  refine ⟨_, (AD (Af (ptc B4 (AJ AQ (by rfl) T.Ay Ao (AA (pv 0) AC)) AB) (AE (BH EI rfl T.Jf (by rfl) T.Jn (AA BD AC)))
    AS)
   (AD (Af (ptc Jt (AJ AQ (by rfl) T.Ay Ao (AA (pv 0) AC)) (Da (v := .int (40)) (by rfl) T.IQ T.IP)) (AE (BH EI rfl T.Jf (by rfl) T.Jn (AA BD AC)))
    AS)
   (AE (Af (ptc FN (AJ QQ (by rfl) T.Ay Ao (AA (Bh (Qc (by rfl)) (by rfl) T.z_set Tp (AA (pv 0) AC)) AC)) (AJ AQ (by rfl) T.Ay Ao (AA (pv 0) AC))) (AE (BH EI rfl T.Jf (by rfl) T.Jn (AA BD AC)))
    AS)))), ?_⟩
  walk_at "RD"
  refine ⟨_, .inl hl, ?_⟩
  rw [List.length_map]
  by_cases h0 : ps.length = 0
  ·rw [if_pos (decide_eq_true (by omega))]
   exact ⟨by decide, kE (.inl (List.length_eq_zero_iff.mp h0)) _ (AH.refl _)⟩
  rw [if_neg (fun z => h0 (by have := of_decide_eq_true z; omega))]
  refine ⟨_, .inl hl, ?_⟩
  rw [List.length_map]
  by_cases h1 : 40 < ps.length
  ·rw [if_pos (decide_eq_true (by omega))]
   exact ⟨by decide, kE (.inr (.inl h1)) _ (AH.refl _)⟩
  rw [if_neg (fun z => h1 (by have := of_decide_eq_true z; omega))]
  refine ⟨ps, hl, h4, fun D H1 S n n1 s1 e1 le iff => ⟨S, n, e1, _, .inl (s1.seq hl), ?_⟩⟩
  rw [List.length_map]
  by_cases h2 : n < ps.length
  ·rw [if_pos (decide_eq_true (by omega))]
   exact ⟨by decide, kE (.inr (.inr fun z => by have := iff.mpr z; omega)) _ s1⟩
  rw [if_neg (fun z => h2 (by have := of_decide_eq_true z; omega))]
  refine k (fun z => ?_) _ s1
  rcases z with z | z | z
  ·rw [z] at h0; exact h0 rfl
  ·exact h1 z
  ·exact z (iff.mp (by omega))
theorem F1 : AN ["throw", "number"] ["throw"] (AF Dw) := by walk_at "SC"
def LV {K : PySem.W.Frag} {mg : Str → Option Value} (T : Tx K mg) : Sp := fun vs H Q E => ∃ (q : Addr) (a b c d : Int), vs = [.ref q] ∧ H q = some (.tup [.int a, .int b, .int c, .int d]) ∧ (N4 a b c d → E (T.err .badthrow) none H) ∧ (¬ N4 a b c d → Q .non H)
theorem Lh (T : Tx K mg) : Ah P w K mg base (CXE P w) 1 T.Gn T.F8 ["throw"] (LV T) := by
 refine T.G4.F.okX F1 (fun vs H Q E h => ?_) (fun cdv A outer s H vs Q E hr h => ?_)
 ·obtain ⟨q, a, b, c, d, rfl, hq, kE, k⟩ := h
  rfl
 ·obtain ⟨q, a, b, c, d, rfl, hq, kE, k⟩ := h
  have hu := Ad hr
  refine ⟨_, (AD (Af (Cd (ptc FN (pxi AL (pv 0) AB) AB) (By (ptc FN (pxi AL (pv 0) AB) AB))).pt (AE (BH EI rfl T.K7 (by rfl) T.Kq (AA BD AC)))
    AS)
   (AE (BF VE rfl (R5 (pv 0)) (pgn 1 F1)
    (AE (Af (Cd (ptc FN (pv 1) (Fa DR (Da (v := .int (999999999)) (by rfl) T.Fn T.FY))) (By (ptc Jt (pv 1) (Da (v := .int (999999999)) (by rfl) T.Fn T.FY)))).pt (AE (BH EI rfl T.K7 (by rfl) T.Kq (AA BD AC)))
      AS))))), ?_⟩
  walk_at "RD"
  walk_at "AUTO"
  by_cases h1 : b < 1
  ·rw [if_pos (decide_eq_true h1)]
   exact ⟨by decide, kE (.inl h1)⟩
  rw [if_neg (fun z => h1 (of_decide_eq_true z))]
  walk_at "AUTO"
  by_cases h2 : d < 1
  ·rw [if_pos (decide_eq_true h2)]
   exact ⟨by decide, kE (.inr (.inl h2))⟩
  rw [if_neg (fun z => h2 (of_decide_eq_true z))]
  refine ⟨_, rfl, q, rfl, ⟨_, SqT.of hq⟩, P1 (xs := [V.int a, V.int b, V.int c, V.int d]) (fun i σ H' => ∃ o, σ = [some (.ref q), o] ∧ H' = H ∧ ∀ x ∈ [a, b, c, d].take i, ¬ (x < -999999999 ∨ 999999999 < x)) ⟨none, rfl, rfl, fun _ z => absurd z (by simp)⟩ (fun _ _ _ _ ⟨_, _, e, _⟩ => SqT.of (e ▸ hq)) ?_ ?_⟩
  ·rintro i v σ H1 hx ⟨o, rfl, rfl, hi⟩
   have hil : i < [a, b, c, d].length := (List.getElem?_eq_some_iff.mp hx).1
   have ev : v = V.int [a, b, c, d][i] := by
    have hx : ([a, b, c, d].map V.int)[i]? = some v := hx
    rw [List.getElem?_map, List.getElem?_eq_getElem hil] at hx
    exact (Option.some.inj hx).symm
   subst ev
   have hmem := List.getElem_mem hil
   have htk : [a, b, c, d].take (i + 1) = [a, b, c, d].take i ++ [[a, b, c, d][i]] := List.take_succ_eq_append_getElem hil
   generalize [a, b, c, d][i] = x at *
   walk_at "RD"
   by_cases h3 : x < -999999999
   ·rw [if_pos (decide_eq_true h3)]
    exact ⟨by decide, kE (.inr (.inr ⟨x, hmem, .inl h3⟩))⟩
   rw [if_neg (fun z => h3 (of_decide_eq_true z))]
   by_cases h4 : 999999999 < x
   ·rw [if_pos (decide_eq_true h4)]
    exact ⟨by decide, kE (.inr (.inr ⟨x, hmem, .inr h4⟩))⟩
   rw [if_neg (fun z => h4 (of_decide_eq_true z))]
   refine ⟨⟨_, rfl⟩, fun y hy => ?_⟩
   rw [htk] at hy
   rcases List.mem_append.mp hy with z | z
   ·exact hi y z
   ·rw [List.mem_singleton.mp z]
    exact fun z => z.elim h3 h4
  ·rintro σ H1 ⟨o, rfl, rfl, hi⟩
   refine k fun z => ?_
   rcases z with z | z | ⟨x, hx, z⟩
   ·exact h1 z
   ·exact h2 z
   ·exact hi x hx z
theorem L6 : AN ["self"] ["self"] (AF E4) := by walk_at "SC"
def HP {K : PySem.W.Frag} {mg : Str → Option Value} (T : Tx K mg) : Sp := fun vs H Q _ => ∃ (b dx : Addr), vs = [.ref b] ∧ H b = some (.ins T.AT dx []) ∧ ∀ H' S P, H S = none → H P = none → (∀ a u, a ≠ b → H a = some u → H' a = some u) → Bch T.AT H' b S P [S, P] [] [] → Q .non H'
theorem Q3 {K : PySem.W.Frag} {mg : Str → Option Value} {T : Tx K mg} {H : Hp} {Q : Addr → Hp → Prop} {E : XK} (k : ∀ b S P H', H b = none → H S = none → H P = none → AH H H' → Bch T.AT H' b S P [S, P] [] [] → Q b H') :
  ∀ x dx, H x = none → H dx = none → dx ≠ x → HP T [V.ref x] (upd (upd H dx (.own x)) x (.ins T.AT dx [])) (fun v H2 => v = V.non ∧ Q x H2) E := fun x dx nx nd hd => by
 refine ⟨x, dx, rfl, AO, fun H' S P nS nP kp hb => ⟨rfl, k x S P H' nx ?_ ?_ (fun a u e => kp a u (AI e nx) ?_) hb⟩⟩
 ·have h1 : S ≠ x := fun z => by rw [z, AO] at nS; cases nS
  have h2 : S ≠ dx := fun z => by rw [AG h1, z, AO] at nS; cases nS
  rwa [AG h1, AG h2] at nS
 ·have h1 : P ≠ x := fun z => by rw [z, AO] at nP; cases nP
  have h2 : P ≠ dx := fun z => by rw [AG h1, z, AO] at nP; cases nP
  rwa [AG h1, AG h2] at nP
 ·rw [AG (AI e nx), AG (AI e nd)]
  exact e
theorem L4 (T : Tx K mg) : Ah P w K mg base CX0 1 T.Ex T.Gf ["self"] (HP T) := by
 refine T.Ie.F.ok L6 (fun vs H Q E h => ?_) (fun cdv A outer s H vs Q E hr h => ?_)
 ·obtain ⟨b, dx, rfl, hb, k⟩ := h
  rfl
 ·obtain ⟨b, dx, rfl, hb, k⟩ := h
  have hu := Ad hr
  refine ⟨_, (AD (Ow (pv 0) (Ar AC) rfl)
   (AE (Ow (pv 0) (Ar AC) rfl))), ?_⟩
  walk_at "RD"
  refine ⟨by decide, fun S H1 nS s1 eS => ⟨_, dx, _, s1.get hb, T.AW, T.AX, by decide, by decide, fun P H2 nP s2 eP => ?_⟩⟩
  have sb : S ≠ b := AI hb nS |>.symm
  refine ⟨_, dx, _, s2.get AO, T.AW, T.Cz, (by show 1 < 1000; decide), ?_⟩
  have nP1 : H1 P = none := by
   have hPb : P ≠ b := fun z => by rw [z, AO] at nP; cases nP
   rw [AG hPb] at nP
   exact nP
  have eS2 : H2 S = some (.lst []) := s2.get ((AG sb).trans eS)
  have pb : P ≠ b := (AI (s1.get hb) nP1).symm
  have ps : P ≠ S := (AI eS nP1).symm
  refine k _ S P nS (s1.free nP1) (fun a u ha e => ?_) ?_
  ·rw [AG ha]
   exact s2.get ((AG ha).trans (s1.get e))
  ·refine ⟨⟨dx, AO⟩, ⟨[], (AG sb).trans eS2, .nil⟩, ⟨[], (AG pb).trans eP, .nil, fun _ h => absurd h (by simp)⟩, ps.symm, by simp, by simp, ⟨List.Pairwise.nil, fun _ h => absurd h (by simp), by decide⟩, fun _ h => absurd h (by simp), by decide, fun a ha => ?_⟩
   simp at ha
   rcases ha with rfl | rfl
   ·exact ⟨_, (AG sb).trans eS2⟩
   ·exact ⟨_, (AG pb).trans eP⟩
theorem Im : AN ["self", "place"] ["self", "place"] (AF CI) := by walk_at "SC"
def IK {K : PySem.W.Frag} {mg : Str → Option Value} (T : Tx K mg) : Sp := fun vs H Q E => ∃ (b S P : Addr) (ow : List Addr) (gs : List G) (past : List (List G)) (p : Int), vs = [.ref b, .int p] ∧ Bch T.AT H b S P ow gs past ∧ ∀ H', AH H H' → Q (.bl (decide (p ∈ AU gs))) H'
theorem Iz (T : Tx K mg) : Ah P w K mg base CX0 1 T.EJ T.Dl ["self", "place"] (IK T) := by
 refine T.CO.F.ok Im (fun vs H Q E h => ?_) (fun cdv A outer s H vs Q E hr h => ?_)
 ·obtain ⟨b, S, P, ow, gs, past, p, rfl, hb, k⟩ := h
  rfl
 ·obtain ⟨b, S, P, ow, gs, past, p, rfl, hb, k⟩ := h
  have hu := Ad hr
  refine ⟨_, (AE (AM (QA Qg (pv 1) (IJ rfl (⟨rfl, by decide +kernel, by decide +kernel, by decide +kernel, rfl, by decide +kernel, by with_unfolding_all rfl, by rfl, by rfl, by rfl⟩ : Az _ _ "gate" [] []) (BV (B0 (pv 0) rfl)) (fun _ _ _ _  => (pxi (KU (K := K) rfl) (pv 0) AB)) (fun _ _ _ _ => GP)) (by with_unfolding_all rfl)))), ?_⟩
  obtain ⟨dx, eb⟩ := hb.at_
  obtain ⟨as, es, ga⟩ := hb.st
  delta IU
  refine ⟨_, dx, _, eb, T.AW, T.AX, _, rfl, ?_⟩
  refine ⟨_, rfl, ⟨_, SqL.of es⟩, fun D nD => ?_⟩
  refine FJ (fun _ => true) (fun g => V.int g.p) (SqL.of es) ga nD (by have := hb.std.len; omega) (fun v g H R hg s1 ev hR => ?_) (fun v g H R hg s1 ev hR => ?_) fun H1 s1 e1 => ?_
  ·exact hR
  ·delta Option.join_some
   exact ⟨_, SqT.of ev, _, rfl, hR⟩
  ·rw [OG, show (gs.map fun g => V.int g.p) = (AU gs).map V.int from by rw [List.map_map]; rfl] at e1
   refine ⟨_, .inl (SqL.of e1), rfl, Q6 _, ?_⟩
   rw [Pm]
   exact k _ s1
theorem EX : AN ["self", "place", "gate"] ["self", "place"] (AF Ce) := by walk_at "SC"
def JR {K : PySem.W.Frag} {mg : Str → Option Value} (T : Tx K mg) : Sp := fun vs H Q E => ∃ (b S P : Addr) (ow : List Addr) (gs : List G) (past : List (List G)) (p : Int), vs = [.ref b, .int p] ∧ Bch T.AT H b S P ow gs past ∧ (p ∉ AU gs → E (T.err .nogate) none H) ∧ ∀ D g, B6 gs p = some g → H D = some (.tup (G.vs g)) → Q (.ref D) H
theorem Ja (T : Tx K mg) : Ah P w K mg base (CXE P w) 1 T.FO T.EV ["self", "place"] (JR T) := by
 refine T.Cu.F.okX EX (fun vs H Q E h => ?_) (fun cdv A outer s H vs Q E hr h => ?_)
 ·obtain ⟨b, S, P, ow, gs, past, p, rfl, hb, kE, k⟩ := h
  rfl
 ·obtain ⟨b, S, P, ow, gs, past, p, rfl, hb, kE, k⟩ := h
  have hu := Ad hr
  refine ⟨_, (AD (BF VE rfl (BV (B0 (pv 0) rfl)) (pgn 2 EX)
    (AE (Af (ptc B4 (pxi AL (pv 2) AB) (pv 1)) (AE (AM (pv 2)))
      AS)))
   (AE (BH EI rfl T.RG (by rfl) T.RE (AA BD AC)))), ?_⟩
  obtain ⟨dx, eb⟩ := hb.at_
  obtain ⟨as, es, ga⟩ := hb.st
  have las := ga.len
  delta IU
  refine ⟨_, rfl, b, T.AT, dx, _, _, rfl, eb, T.AW, T.AX, rfl, S, rfl, ⟨_, SqL.of es⟩, ER (xs := as.map V.ref) (fun i σ H' => ∃ o, σ = [some (.ref b), some (.int p), o] ∧ H' = H ∧ ∀ g ∈ gs.take i, g.p ≠ p) ⟨none, rfl, rfl, fun _ z => absurd z (by simp)⟩ (fun _ _ _ _ ⟨_, _, e, _⟩ => SqL.of (e ▸ es)) ?_ ?_⟩
  ·rintro i v σ H1 hx ⟨o, rfl, rfl, hn⟩
   have hi : i < gs.length := by
    have := (List.getElem?_eq_some_iff.mp hx).1
    rw [List.length_map] at this
    omega
   obtain ⟨a, ha, ea⟩ := ga.get (List.getElem?_eq_getElem hi)
   have ex : v = V.ref a := by
    rw [List.getElem?_map, ha] at hx
    exact (Option.some.inj hx).symm
   subst ex
   have hm := List.getElem_mem hi
   have htk : gs.take (i + 1) = gs.take i ++ [gs[i]] := List.take_succ_eq_append_getElem hi
   generalize gs[i] = g at *
   walk_at "RD"
   refine ⟨_, SqT.of ea, _, rfl, rfl, ?_⟩
   by_cases hp : g.p = p
   ·rw [if_pos (decide_eq_true (by rw [hp]))]
    exact k a g (hp ▸ Je hb.std.asc hm) ea
   ·rw [if_neg (fun z => hp (V.int.inj (of_decide_eq_true z)))]
    refine ⟨⟨_, rfl⟩, fun y hy => ?_⟩
    rw [htk] at hy
    rcases List.mem_append.mp hy with z | z
    ·exact hn y z
    ·rw [List.mem_singleton.mp z]
     exact hp
  ·rintro σ H1 ⟨o, rfl, rfl, hn⟩
   walk_at "RD"
   refine ⟨by decide, kE fun z => ?_⟩
   obtain ⟨g, hg, e⟩ := List.mem_map.mp z
   exact hn g (by rw [List.length_map, las, List.take_length]; exact hg) e
theorem EF : AN ["self", "place", "instead", "others"] ["self", "place", "instead"] (AF Cm) := by walk_at "SC"
def Jp {K : PySem.W.Frag} {mg : Str → Option Value} (T : Tx K mg) : Sp := fun vs H Q E => ∃ (b S P : Addr) (ow : List Addr) (gs : List G) (past : List (List G)) (p : Int) (l : Addr) (ls : List Addr) (o : List G), vs = [.ref b, .int p, .ref l] ∧ Bch T.AT H b S P ow gs past ∧ l ∉ ow ∧ H l = some (.lst (ls.map V.ref)) ∧ Ab H ls o ∧ (∀ g ∈ o, g.p = p) ∧ Std (JW gs p o) ∧ (300 ≤ past.length → E (T.err .deeds) none H) ∧ (past.length < 300 → ∀ H' S' ow' (D : Addr), Kp b P H H' → Bch T.AT H' b S' P ow' (JW gs p o) (past ++ [gs]) → (∀ a ∈ ow', a ∈ ow ∨ H a = none) → Q .non H')
theorem JY (T : Tx K mg) : Ah P w K mg base (CXE P w) 1 T.E9 T.Ef ["self", "place", "instead"] (Jp T) := by
 refine T.Ch.F.okX EF (fun vs H Q E h => ?_) (fun cdv A outer s H vs Q E hr h => ?_)
 ·obtain ⟨b, S, P, ow, gs, past, p, l, ls, o, rfl, hb, hlo, el, go, hop, std, kE, k⟩ := h
  rfl
 ·obtain ⟨b, S, P, ow, gs, past, p, l, ls, o, rfl, hb, hlo, el, go, hop, std, kE, k⟩ := h
  have hu := Ad hr
  refine ⟨_, (AD (Af (ptc TY (AJ AQ (by rfl) T.Ay Ao (AA (B0 (pv 0) rfl) AC)) (Da (v := .int (300)) (by rfl) T.Ng T.NA)) (AE (BH EI rfl T.Np (by rfl) T.Nz (AA BD AC)))
    AS)
   (AD (HV (i := 3) rfl EF.nd rfl (Or.inl rfl) (⟨rfl, by decide +kernel, by decide +kernel, by decide +kernel, rfl, by decide +kernel, by with_unfolding_all rfl, by rfl, by rfl, by rfl⟩ : Az _ _ "gate" ["place"] [1]) (BV (B0 (pv 0) rfl)) (fun _ _ _ _  => (pv 0)) (fun _ _ _ _ => (Pz (ptc FB (pxi (KU (K := K) rfl) (pv 0) AB) (pv 1)))))
   (AD (BB (Be (B0 (pv 0) rfl) (B0 (pv 0) rfl)))
   (AE (Ow (pv 0) (AJ A9 (by rfl) T.CY Bx (AA (AK P4 (pv 3) (pv 2)) AC)) rfl))))), ?_⟩
  obtain ⟨dx, eb⟩ := hb.at_
  obtain ⟨as, es, ga⟩ := hb.st
  obtain ⟨ps, ep, pr, hps⟩ := hb.pa
  have lp := Paired.length pr
  walk_at "Q"
  walk_at "RD"
  refine ⟨_, dx, _, eb, T.AW, T.Cz, _, rfl, ?_⟩
  refine ⟨_, rfl, _, .inl (SqL.of ep), ?_⟩
  rw [List.length_map, lp]
  by_cases h3 : 300 ≤ past.length
  ·rw [if_pos (decide_eq_true (by omega))]
   exact ⟨by decide, kE h3⟩
  ·rw [if_neg (fun z => h3 (by have := of_decide_eq_true z; omega))]
   walk_at "NX"
   walk_at "Q"
   delta IU
   refine ⟨_, dx, _, eb, T.AW, T.AX, _, rfl, _, rfl, ⟨_, SqL.of es⟩, fun D nD => ?_⟩
   refine Og (fun g => !decide (g.p = p)) (SqL.of es) ga nD (by have := hb.std.len; omega) (fun v g H1 R hg s1 ev hR => ?_) fun H1 as1 s1 e1 ga1 => ?_
   ·delta Option.join_some
    refine ⟨_, SqT.of ev, _, rfl, rfl, ?_⟩
    rw [show decide (V.int g.p = V.int p) = decide (g.p = p) from decide_eq_decide.mpr ⟨fun z => V.int.inj z, fun z => by rw [z]⟩]
    exact hR
   ·have eb1 := s1.get eb
    have ep1 := s1.get ep
    walk_at "NX"
    walk_at "Q"
    walk_at "RD"
    refine ⟨_, dx, _, eb1, T.AW, T.Cz, _, rfl, _, rfl, ⟨_, ep1⟩, _, dx, _, eb1, T.AW, T.AX, _, rfl, _, ep1, by rw [List.length_map, lp, PySem.sizeLine_eq]; omega, ?_⟩
    walk_at "NX"
    walk_at "RD"
    have bP : b ≠ P := GG eb ep (by simp)
    have lP : l ≠ P := fun z => hlo (by rw [z]; exact hb.po)
    have DP : D ≠ P := (AI ep nD).symm
    have el1 : upd H1 P (.lst (ps.map V.ref ++ [V.ref S])) l = some (.lst (ls.map V.ref)) := (AG lP).trans (s1.get el)
    have e1' : upd H1 P (.lst (ps.map V.ref ++ [V.ref S])) D = some (.lst (as1.map V.ref)) := (AG DP).trans e1
    have lo := Ab.len go
    have l1 := Ab.len ga1
    have lf := List.length_filter_le (fun g : G => !decide (g.p = p)) gs
    have l40 := hb.std.len
    have lpo := Oe (gs := gs) (p := p) (o := o)
    have l40' := std.len
    refine ⟨_, e1', _, el1, by rw [List.length_map, List.length_map, PySem.sizeLine_eq]; omega, fun M H2 n2 s2 e2 => ?_⟩
    have kt : ∀ a xs, H a = some (.tup xs) → H2 a = some (.tup xs) := fun a xs e => s2.get ((AG (hb.nep e fun _ z => by cases z)).trans (s1.get e))
    have kt1 : ∀ a xs, H1 a = some (.tup xs) → H2 a = some (.tup xs) := fun a xs e => s2.get ((AG (GG e ep1 (fun z => by cases z))).trans e)
    have ga2 : Ab H2 (as1 ++ ls) ((gs.filter fun g => !decide (g.p = p)) ++ o) := Ab.append (ga1.keep kt1) (go.keep kt)
    refine ⟨as1 ++ ls, by rw [List.map_append]; exact SqL.of e2, _, ga2, ?_, by rw [List.length_append]; omega, fun S' H3 as3 gs3 n3 s3 e3 ga3 pm ac => ?_⟩
    ·exact ((GS (gs := gs) (p := p) (o := o)).map G.p).nodup_iff.mp std.nd
    have eg : gs3 = JW gs p o := A7 ac std.asc (pm.trans GS.symm)
    subst eg
    have eP3 : H3 P = some (.lst ((ps ++ [S]).map V.ref)) := by rw [List.map_append]; exact s3.get (s2.get AO)
    have eb3 : H3 b = some (.ins T.AT dx [("standing", .ref S), ("past", .ref P)]) := s3.get (s2.get ((AG bP).trans eb1))
    have kp3 : Kp b P H H3 := fun a u h1 h2 e => s3.get (s2.get ((AG h2).trans (s1.get e)))
    have fr : ∀ a, H3 a = none → H a = none := fun a e => by
     cases q : H a with
     | none => rfl
     | some u =>
      by_cases hb' : a = b
      ·rw [hb', eb3] at e; cases e
      ·by_cases hP : a = P
       ·rw [hP, eP3] at e; cases e
       ·rw [kp3 a u hb' hP q] at e; cases e
    have n3H : H S' = none := by
     cases q : H S' with
     | none => rfl
     | some u =>
      by_cases hb' : S' = b
      ·rw [hb', s2.get ((AG bP).trans eb1)] at n3; cases n3
      ·by_cases hP : S' = P
       ·rw [hP, s2.get AO] at n3; cases n3
       ·rw [s2.get ((AG hP).trans (s1.get q))] at n3; cases n3
    have Sb : S' ≠ b := (AI eb n3H).symm
    have SP' : S' ≠ P := (AI ep n3H).symm
    have kt3 : ∀ a xs, H a = some (.tup xs) → H3 a = some (.tup xs) := fun a xs e => s3.get (kt a xs e)
    have kb : ∀ a xs, H3 a = some (.tup xs) → upd H3 b (.ins T.AT dx [("standing", .ref S'), ("past", .ref P)]) a = some (.tup xs) := fun a xs e => (AG (GG e eb3 (fun z => by cases z))).trans e
    refine ⟨_, dx, _, eb3, T.AW, T.AX, by show 2 < 1000; decide, k (by omega) _ S' (S' :: S :: ow) S' (kp3.upd (.inl rfl)) ?_ fun a ha => ?_⟩
    ·refine ⟨⟨dx, AO⟩, ⟨as3, (AG Sb).trans e3, ga3.keep kb⟩, ⟨ps ++ [S], (AG bP.symm).trans eP3, Paired.snoc (Paired.keepM pr fun x y hx q => ?_) ?_, fun a ha => ?_⟩, SP', by simp, by simp [hb.po], std, fun x hx => ?_, by rw [List.length_append]; simp only [List.length_singleton]; omega, fun a ha => ?_⟩
     ·have hxo := hps x hx
      obtain ⟨_, ex⟩ := hb.lv x hxo.1
      have hxb : x ≠ b := hb.neb ex fun _ _ _ z => by cases z
      exact q.keep (fun u e => (AG hxb).trans (kp3 x u hxb hxo.2 e)) fun a xs e => kb a xs (kt3 a xs e)
     ·have hSb : S ≠ b := hb.neb es fun _ _ _ z => by cases z
      exact hb.st.keep (fun u e => (AG hSb).trans (kp3 S u hSb hb.sp e)) fun a xs e => kb a xs (kt3 a xs e)
     ·rcases List.mem_append.mp ha with z | z
      ·exact ⟨by simp [(hps a z).1], (hps a z).2⟩
      ·rw [List.mem_singleton.mp z]; exact ⟨by simp, hb.sp⟩
     ·rcases List.mem_append.mp hx with z | z
      ·exact hb.stds x z
      ·rw [List.mem_singleton.mp z]; exact hb.std
     ·have hown : ∀ a ∈ ow, ∃ xs, upd H3 b (.ins T.AT dx [("standing", .ref S'), ("past", .ref P)]) a = some (.lst xs) := fun a ha => by
       obtain ⟨xs, ex⟩ := hb.lv a ha
       have hxb : a ≠ b := hb.neb ex fun _ _ _ z => by cases z
       by_cases hP : a = P
       ·rw [hP]; exact ⟨_, (AG bP.symm).trans eP3⟩
       ·exact ⟨xs, (AG hxb).trans (kp3 a _ hxb hP ex)⟩
      rcases List.mem_cons.mp ha with z | z
      ·rw [z]; exact ⟨_, (AG Sb).trans e3⟩
      ·rcases List.mem_cons.mp z with z | z
       ·rw [z]; exact hown S hb.so
       ·exact hown a z
    ·rcases List.mem_cons.mp ha with z | z
     ·rw [z]; exact .inr n3H
     ·rcases List.mem_cons.mp z with z | z
      ·rw [z]; exact .inl hb.so
      ·exact .inl z
theorem Ij : AN ["self", "place", "foot", "head", "gate"] ["self", "place", "foot", "head"] (AF Fw) := by walk_at "SC"
def Nh {K : PySem.W.Frag} {mg : Str → Option Value} (T : Tx K mg) : Sp := fun vs H Q E => ∃ (b S P : Addr) (ow : List Addr) (gs : List G) (past : List (List G)) (p f h : Int), vs = [.ref b, .int p, .int f, .int h] ∧ Bch T.AT H b S P ow gs past ∧ (∀ e, NH gs past p f h = some e → ∀ H', AH H H' → E (T.err e) none H') ∧ (NH gs past p f h = none → ∀ H' S' ow' (D : Addr), Kp b P H H' → Bch T.AT H' b S' P ow' (JW gs p [⟨p, f, h⟩]) (past ++ [gs]) → (∀ a ∈ ow', a ∈ ow ∨ H a = none) → H' D = some (.tup [.int p, .int f, .int h]) → Q (.ref D) H')
theorem NR (T : Tx K mg) : Ah P w K mg base (CXE P w) 2 T.J1 T.IY ["self", "place", "foot", "head"] (Nh T) := by
 refine T.GK.F.okX Ij (fun vs H Q E h => ?_) (fun cdv A outer s H vs Q E hr h => ?_)
 ·obtain ⟨b, S, P, ow, gs, past, p, f, h', rfl, hb, kE, k⟩ := h
  rfl
 ·obtain ⟨b, S, P, ow, gs, past, p, f, h', rfl, hb, kE, k⟩ := h
  have hu := Ad hr
  refine ⟨_, (AD (Af (BO (Bs (pv 0) T.AW T.CO.mt (Iz T) (hr.mono (by decide)) T.CO.b .nil AV (AA (pv 1) AC))) (AE (BH EI rfl T.S8 (by rfl) T.Si (AA BD AC)))
    AS)
   (AD (pst 4 Ij (AZ (AA (pv 1) (AA (pv 2) (AA (pv 3) AC)))))
   (AD (BB (pcl T.Hq (Ln T) hr J8 (AA (pv 4) AC)))
   (AD (Af (ptc TY (AJ AQ (by rfl) T.Ay Ao (AA (B0 (pv 0) rfl) AC)) (Da (v := .int (40)) (by rfl) T.IQ T.IP)) (AE (BH EI rfl T.N5 (by rfl) T.Od (AA BD AC)))
    AS)
   (AD (BB (Bs (pv 0) T.AW T.Ch.mt (JY T) (hr.mono (by decide)) T.Ch.b .nil J8 (AA (pv 1) (AA (Ar (AA (pv 4) AC)) AC))))
   (AE (AM (pv 4)))))))), ?_⟩
  obtain ⟨dx, eb⟩ := hb.at_
  obtain ⟨as, es, ga⟩ := hb.st
  have las := ga.len
  walk_at "Q"
  walk_at "RD"
  refine ⟨_, _, eb, rfl, b, S, P, ow, gs, past, p, rfl, hb, fun H1 s1 => ?_⟩
  have hb1 := hb.same s1
  by_cases hp : p ∈ AU gs
  ·refine ⟨_, rfl, ?_⟩
   rw [if_pos (decide_eq_true hp)]
   exact ⟨by decide, kE .taken (by unfold NH; rw [if_pos hp]) _ s1⟩
  refine ⟨_, rfl, ?_⟩
  rw [if_neg (fun z => hp (of_decide_eq_true z))]
  walk_at "NX"
  walk_at "Q"
  walk_at "RD"
  refine ⟨by decide, fun q H2 n2 s2 e2 => ?_⟩
  walk_at "NX"
  walk_at "Q"
  walk_at "RD"
  refine ⟨q, p, f, h', rfl, e2, fun e he => kE e (by unfold NH; rw [if_neg hp, he]; rfl) _ (s1.trans s2), fun hok => ?_⟩
  have hb2 := hb1.same s2
  obtain ⟨dx, eb⟩ := hb2.at_
  obtain ⟨as, es, ga⟩ := hb2.st
  have las := ga.len
  walk_at "NX"
  walk_at "Q"
  walk_at "RD"
  refine ⟨_, dx, _, eb, T.AW, T.AX, _, rfl, _, rfl, _, .inl (SqL.of es), ?_⟩
  rw [List.length_map, las]
  by_cases h4 : 40 ≤ gs.length
  ·rw [if_pos (decide_eq_true (by omega))]
   exact ⟨by decide, kE .full (by unfold NH; rw [if_neg hp, hok, if_pos h4]; rfl) _ (s1.trans s2)⟩
  rw [if_neg (fun z => h4 (by have := of_decide_eq_true z; omega))]
  walk_at "NX"
  walk_at "RD"
  refine ⟨dx, _, eb, rfl, by decide, fun l H3 n3 s3 e3 => ?_⟩
  have hb3 := hb2.same s3
  have ok := K9.mp hok
  refine ⟨b, S, P, ow, gs, past, p, l, [q], [⟨p, f, h'⟩], rfl, hb3, fun z => ?_, e3, .cons (s3.get e2) .nil, fun g hg => by rw [List.mem_singleton.mp hg], hb.std.put ok (by rw [N1 hp]; omega), fun h3 => kE .deeds (by unfold NH; rw [if_neg hp, hok, if_neg h4, if_pos h3]; rfl) _ (s1.trans (s2.trans s3)), fun h3 H4 S' ow' _ k4 b4 o4 => ?_⟩
  ·exact hb2.off n3 z
  ·refine k (by unfold NH; rw [if_neg hp, hok, if_neg h4, if_neg (by omega)]; rfl) H4 S' ow' q ((Kp.of (s1.trans (s2.trans s3))).trans k4) b4 (fun a ha => ?_) (hb3.tup k4 (s3.get e2))
   exact (o4 a ha).imp id fun z => (s1.trans (s2.trans s3)).free z
theorem Ko : AN ["self"] ["self"] (AF D7) := by walk_at "SC"
def LW {K : PySem.W.Frag} {mg : Str → Option Value} (T : Tx K mg) : Sp := fun vs H Q E => ∃ (b S P : Addr) (ow : List Addr) (gs : List G) (past : List (List G)), vs = [.ref b] ∧ Bch T.AT H b S P ow gs past ∧ ∀ H' D as, H D = none → AH H H' → H' D = some (.lst (as.map V.ref)) → Ab H' as gs → Q (.ref D) H'
theorem LN (T : Tx K mg) : Ah P w K mg base CX0 1 T.Gy T.GD ["self"] (LW T) := by
 refine T.Dq.F.ok Ko (fun vs H Q E h => ?_) (fun cdv A outer s H vs Q E hr h => ?_)
 ·obtain ⟨b, S, P, ow, gs, past, rfl, hb, k⟩ := h
  rfl
 ·obtain ⟨b, S, P, ow, gs, past, rfl, hb, k⟩ := h
  have hu := Ad hr
  refine ⟨_, (AE (AM (Bh Bb (by rfl) T.Bd A8 (AA (B0 (pv 0) rfl) AC)))), ?_⟩
  obtain ⟨dx, eb⟩ := hb.at_
  obtain ⟨as, es, ga⟩ := hb.st
  walk_at "RD"
  refine ⟨_, dx, _, eb, T.AW, T.AX, _, rfl, ?_⟩
  refine ⟨_, rfl, _, .inl (SqL.of es), fun l H' n s e => ?_⟩
  exact k H' l as n s e (ga.same s)
theorem Kh : AN ["self"] ["self"] (AF EE) := by walk_at "SC"
def Ku {K : PySem.W.Frag} {mg : Str → Option Value} (T : Tx K mg) : Sp := fun vs H Q E => ∃ (b S P : Addr) (ow : List Addr) (gs : List G) (past : List (List G)), vs = [.ref b] ∧ Bch T.AT H b S P ow gs past ∧ Q (.int past.length) H
theorem Kj (T : Tx K mg) : Ah P w K mg base CX0 1 T.HF T.GH ["self"] (Ku T) := by
 refine T.D9.F.ok Kh (fun vs H Q E h => ?_) (fun cdv A outer s H vs Q E hr h => ?_)
 ·obtain ⟨b, S, P, ow, gs, past, rfl, hb, k⟩ := h
  rfl
 ·obtain ⟨b, S, P, ow, gs, past, rfl, hb, k⟩ := h
  have hu := Ad hr
  refine ⟨_, (AE (AM (AJ AQ (by rfl) T.Ay Ao (AA (B0 (pv 0) rfl) AC)))), ?_⟩
  obtain ⟨dx, eb⟩ := hb.at_
  obtain ⟨ps, ep, pr, _⟩ := hb.pa
  have lp := Paired.length pr
  walk_at "RD"
  refine ⟨_, dx, _, eb, T.AW, T.Cz, _, rfl, ?_⟩
  refine ⟨_, rfl, _, .inl (SqL.of ep), ?_⟩
  rw [List.length_map, lp]
  exact k
theorem IX : AN ["self", "places"] ["self", "places"] (AF CM) := by walk_at "SC"
def Ii {K : PySem.W.Frag} {mg : Str → Option Value} (T : Tx K mg) : Sp := fun vs H Q E => ∃ (b S P : Addr) (ow : List Addr) (gs : List G) (past : List (List G)) (l : Addr) (ps : List Int), vs = [.ref b, .ref l] ∧ Bch T.AT H b S P ow gs past ∧ SqL K H l (ps.map V.int) ∧ ps.length < 4000 ∧ (EC ps → ∀ H', AH H H' → E (T.err .badlist) none H') ∧ (¬ EC ps → ∀ p ∈ ps, p ∈ AU gs) ∧ (¬ EC ps → ∀ D H' as, H D = none → AH H H' → H' D = some (.lst (as.map V.ref)) → Ab H' as (Bw gs ps) → Q (.ref D) H')
theorem Dk (T : Tx K mg) : Ah P w K mg base (CXE P w) 2 T.Eh T.De ["self", "places"] (Ii T) := by
 refine T.BJ.F.okX IX (fun vs H Q E h => ?_) (fun cdv A outer s H vs Q E hr h => ?_)
 ·obtain ⟨b, S, P, ow, gs, past, l, ps, rfl, hb, hl, h4, kE, hst, k⟩ := h
  rfl
 ·obtain ⟨b, S, P, ow, gs, past, l, ps, rfl, hb, hl, h4, kE, hst, k⟩ := h
  have hu := Ad hr
  refine ⟨_, (AD (BB (pcl T.F6 (KL T) hr J8 (AA (pv 1) AC)))
   (AE (AM (IJ rfl (⟨rfl, by decide +kernel, by decide +kernel, by decide +kernel, rfl, by decide +kernel, by with_unfolding_all rfl, by rfl, by rfl, by rfl⟩ : Az _ _ "place" ["self"] [0]) (BV (pv 1)) (fun _ _ _ _  => (Bs (pv 1) T.AW T.Cu.mt (Ja T) (hr.mono (by decide)) T.Cu.b .nil HZ (AA (pv 0) AC))) (fun _ _ _ _ => GP))))), ?_⟩
  delta IU
  refine ⟨l, ps, rfl, hl, h4, kE, fun hg H1 s1 => ⟨⟨_, s1.seq hl⟩, fun D nD => ?_⟩⟩
  have hs := hst hg
  have hb1 := hb.same s1
  have ll : ps.length ≤ 40 := Nat.le_of_not_lt fun z => hg (.inr (.inl z))
  refine S3 (gs := Bw gs ps) (by rw [BM hs]; exact s1.seq hl) nD (by rw [Ec hs]; omega) (fun g H2 R hg s2 hR => ?_) fun H2 as s2 e2 ga => k ‹_› D H2 as (s1.free nD) (s1.trans s2) e2 ga
  have hb2 := hb1.same s2
  obtain ⟨dx, eb⟩ := hb2.at_
  delta Option.join_some
  refine ⟨dx, _, eb, rfl, b, S, P, ow, gs, past, g.p, rfl, hb2, fun hn => absurd (List.mem_map.mpr ⟨g, EL hg, rfl⟩) hn, fun D' g' hg' eD' => ?_⟩
  rw [Rl hb.std.asc hg] at hg'
  cases hg'
  exact hR D' eD'
theorem CD : AN ["self", "places", "gates"] ["self", "places"] (AF BZ) := by walk_at "SC"
def FU {K : PySem.W.Frag} {mg : Str → Option Value} (T : Tx K mg) : Sp := fun vs H Q E => ∃ (b S P : Addr) (ow : List Addr) (gs : List G) (past : List (List G)) (l : Addr) (ps : List Int), vs = [.ref b, .ref l] ∧ Bch T.AT H b S P ow gs past ∧ SqL K H l (ps.map V.int) ∧ ps.length < 4000 ∧ (EC ps → ∀ H', AH H H' → E (T.err .badlist) none H') ∧ (¬ EC ps → ∀ p ∈ ps, p ∈ AU gs) ∧ (¬ EC ps → ps.length < 2 → ∀ H', AH H H' → E (T.err .few) none H') ∧ (¬ EC ps → 2 ≤ ps.length → ∀ D H' as, H D = none → AH H H' → H' D = some (.lst (as.map V.ref)) → Ab H' as (Bw gs ps) → Q (.ref D) H')
theorem CC (T : Tx K mg) : Ah P w K mg base (CXE P w) 3 T.CZ T.CA ["self", "places"] (FU T) := by
 refine T.Au.F.okX CD (fun vs H Q E h => ?_) (fun cdv A outer s H vs Q E hr h => ?_)
 ·obtain ⟨b, S, P, ow, gs, past, l, ps, rfl, hb, hl, h4, kE, hst, kF, k⟩ := h
  rfl
 ·obtain ⟨b, S, P, ow, gs, past, l, ps, rfl, hb, hl, h4, kE, hst, kF, k⟩ := h
  have hu := Ad hr
  refine ⟨_, (AD (pst 2 CD (Bs (pv 0) T.AW T.BJ.mt (Dk T) (hr.mono (by decide)) T.BJ.b .nil J8 (AA (pv 1) AC)))
   (AD (Af (ptc FN (AJ AQ (by rfl) T.Ay Ao (AA (pv 2) AC)) AB) (AE (BH EI rfl T.RH (by rfl) T.Ru (AA BD AC)))
    AS)
   (AE (AM (pv 2))))), ?_⟩
  obtain ⟨dx, eb⟩ := hb.at_
  walk_at "RD"
  refine ⟨dx, _, eb, rfl, b, S, P, ow, gs, past, l, ps, rfl, hb, hl, h4, kE, hst, fun hg D H1 as n1 s1 e1 ga => ?_⟩
  first | refine ⟨_, .inl (SqL.of e1), ?_⟩ | refine ⟨_, rfl, _, .inl (SqL.of e1), ?_⟩
  have la := ga.len
  have lp := Ec (hst hg)
  rw [List.length_map]
  by_cases h2 : ps.length < 2
  ·rw [if_pos (decide_eq_true (by omega))]
   exact ⟨by decide, kF hg h2 _ s1⟩
  ·rw [if_neg (fun z => h2 (by have := of_decide_eq_true z; omega))]
   exact k hg (by omega) D H1 as n1 s1 e1 ga
theorem JI : AN ["self", "places"] ["self", "places"] (AF Cp) := by walk_at "SC"
def JG {K : PySem.W.Frag} {mg : Str → Option Value} (T : Tx K mg) : Sp := fun vs H Q E => ∃ (b S P : Addr) (ow : List Addr) (gs : List G) (past : List (List G)) (l : Addr) (ps : List Int), vs = [.ref b, .ref l] ∧ Bch T.AT H b S P ow gs past ∧ SqL K H l (ps.map V.int) ∧ ps.length < 4000 ∧ (EC ps → ∀ H', AH H H' → E (T.err .badlist) none H') ∧ (¬ EC ps → ∀ p ∈ ps, p ∈ AU gs) ∧ (¬ EC ps → ∀ D H' sg x, AH H H' → sg.Perm (Bw gs ps) → Asc sg → KI sg x → Enc H' x (.ref D) → Q (.ref D) H')
theorem JP (T : Tx K mg) : Ah P w K mg base (CXE P w) 9 T.FL T.Ej ["self", "places"] (JG T) := by
 refine T.Cj.F.okX JI (fun vs H Q E h => ?_) (fun cdv A outer s H vs Q E hr h => ?_)
 ·obtain ⟨b, S, P, ow, gs, past, l, ps, rfl, hb, hl, h4, kE, hst, k⟩ := h
  rfl
 ·obtain ⟨b, S, P, ow, gs, past, l, ps, rfl, hb, hl, h4, kE, hst, k⟩ := h
  have hu := Ad hr
  refine ⟨_, (AE (AM (pcl T.FK (JH T) hr AV (AA (Bs (pv 0) T.AW T.BJ.mt (Dk T) (hr.mono (by decide)) T.BJ.b .nil J8 (AA (pv 1) AC)) AC)))), ?_⟩
  obtain ⟨dx, eb⟩ := hb.at_
  walk_at "RD"
  refine ⟨dx, _, eb, rfl, b, S, P, ow, gs, past, l, ps, rfl, hb, hl, h4, kE, hst, fun hg D H1 as n1 s1 e1 ga => ?_⟩
  have hs := hst hg
  have lp := Ec hs
  exact ⟨D, as, Bw gs ps, rfl, SqL.of e1, ga, by show (AU _).Nodup; rw [BM hs]; exact Classical.byContradiction fun z => hg (.inr (.inr z)), by rw [lp]; exact Nat.le_of_not_lt fun z => hg (.inr (.inl z)), fun z => hg (.inl (by rw [← BM hs, z]; rfl)), fun g hg => hb.std.ok g (EL hg), fun D2 H2 sg x s2 pm ac an en => k hg D2 H2 sg x (s1.trans s2) pm ac an en⟩
theorem IA : AN ["self", "places"] ["self", "places"] (AF CK) := by walk_at "SC"
def Iy {K : PySem.W.Frag} {mg : Str → Option Value} (T : Tx K mg) : Sp := fun vs H Q E => ∃ (b S P : Addr) (ow : List Addr) (gs : List G) (past : List (List G)) (l : Addr) (ps : List Int), vs = [.ref b, .ref l] ∧ Bch T.AT H b S P ow gs past ∧ SqL K H l (ps.map V.int) ∧ ps.length < 4000 ∧ (EC ps → ∀ H', AH H H' → E (T.err .badlist) none H') ∧ (¬ EC ps → ∀ p ∈ ps, p ∈ AU gs) ∧ (¬ EC ps → ps.length < 2 → ∀ H', AH H H' → E (T.err .few) none H') ∧ (¬ EC ps → 2 ≤ ps.length → ∀ D H' sg x, AH H H' → sg.Perm (Bw gs ps) → Asc sg → He id sg sg x → Enc H' x (.ref D) → Q (.ref D) H')
theorem IV (T : Tx K mg) : Ah P w K mg base (CXE P w) 8 T.Ea T.Dh ["self", "places"] (Iy T) := by
 refine T.CH.F.okX IA (fun vs H Q E h => ?_) (fun cdv A outer s H vs Q E hr h => ?_)
 ·obtain ⟨b, S, P, ow, gs, past, l, ps, rfl, hb, hl, h4, kE, hst, kF, k⟩ := h
  rfl
 ·obtain ⟨b, S, P, ow, gs, past, l, ps, rfl, hb, hl, h4, kE, hst, kF, k⟩ := h
  have hu := Ad hr
  refine ⟨_, (AE (AM (pcl T.EK (Ib T) hr AV (AA (Bs (pv 0) T.AW T.Au.mt (CC T) (hr.mono (by decide)) T.Au.b .nil J8 (AA (pv 1) AC)) AC)))), ?_⟩
  obtain ⟨dx, eb⟩ := hb.at_
  walk_at "RD"
  refine ⟨dx, _, eb, rfl, b, S, P, ow, gs, past, l, ps, rfl, hb, hl, h4, kE, hst, kF, fun hg h2 D H1 as n1 s1 e1 ga => ?_⟩
  have hs := hst hg
  have lp := Ec hs
  exact ⟨D, as, Bw gs ps, rfl, SqL.of e1, ga, by show (AU _).Nodup; rw [BM hs]; exact Classical.byContradiction fun z => hg (.inr (.inr z)), by omega, by rw [lp]; exact Nat.le_of_not_lt fun z => hg (.inr (.inl z)), fun g hg => hb.std.ok g (EL hg), fun D2 H2 sg x s2 pm ac an en => k hg h2 D2 H2 sg x (s1.trans s2) pm ac an en⟩
theorem IB : AN ["self", "places"] ["self", "places"] (AF CG) := by walk_at "SC"
def Iw {K : PySem.W.Frag} {mg : Str → Option Value} (T : Tx K mg) : Sp := fun vs H Q E => ∃ (b S P : Addr) (ow : List Addr) (gs : List G) (past : List (List G)) (l : Addr) (ps : List Int), vs = [.ref b, .ref l] ∧ Bch T.AT H b S P ow gs past ∧ SqL K H l (ps.map V.int) ∧ ps.length < 4000 ∧ (EC ps → ∀ H', AH H H' → E (T.err .badlist) none H') ∧ (¬ EC ps → ∀ p ∈ ps, p ∈ AU gs) ∧ (¬ EC ps → ps.length < 2 → ∀ H', AH H H' → E (T.err .few) none H') ∧ (¬ EC ps → 2 ≤ ps.length → ∀ D H' sg x, AH H H' → sg.Perm (Bw gs ps) → Asc sg → He MK sg (sg.map Bq) x → Enc H' x (.ref D) → Q (.ref D) H')
theorem IG (T : Tx K mg) : Ah P w K mg base (CXE P w) 8 T.EW T.Df ["self", "places"] (Iw T) := by
 refine T.CL.F.okX IB (fun vs H Q E h => ?_) (fun cdv A outer s H vs Q E hr h => ?_)
 ·obtain ⟨b, S, P, ow, gs, past, l, ps, rfl, hb, hl, h4, kE, hst, kF, k⟩ := h
  rfl
 ·obtain ⟨b, S, P, ow, gs, past, l, ps, rfl, hb, hl, h4, kE, hst, kF, k⟩ := h
  have hu := Ad hr
  refine ⟨_, (AE (AM (pcl T.EY (IM T) hr AV (AA (Bs (pv 0) T.AW T.Au.mt (CC T) (hr.mono (by decide)) T.Au.b .nil J8 (AA (pv 1) AC)) AC)))), ?_⟩
  obtain ⟨dx, eb⟩ := hb.at_
  walk_at "RD"
  refine ⟨dx, _, eb, rfl, b, S, P, ow, gs, past, l, ps, rfl, hb, hl, h4, kE, hst, kF, fun hg h2 D H1 as n1 s1 e1 ga => ?_⟩
  have hs := hst hg
  have lp := Ec hs
  exact ⟨D, as, Bw gs ps, rfl, SqL.of e1, ga, by show (AU _).Nodup; rw [BM hs]; exact Classical.byContradiction fun z => hg (.inr (.inr z)), by omega, by rw [lp]; exact Nat.le_of_not_lt fun z => hg (.inr (.inl z)), fun g hg => hb.std.ok g (EL hg), fun D2 H2 sg x s2 pm ac an en => k hg h2 D2 H2 sg x (s1.trans s2) pm ac an en⟩
theorem MJ : AN ["self"] ["self"] (AF Em) := by walk_at "SC"
def Lq {K : PySem.W.Frag} {mg : Str → Option Value} (T : Tx K mg) : Sp := fun vs H Q E => ∃ (b S P : Addr) (ow : List Addr) (gs : List G) (past : List (List G)), vs = [.ref b] ∧ Bch T.AT H b S P ow gs past ∧ ∀ D H' as' rs, H D = none → AH H H' → NK H' D as' rs gs → Nv rs → Q (.ref D) H'
theorem L3 (T : Tx K mg) : Ah P w K mg base CX0 9 T.Hv T.HD ["self"] (Lq T) := by
 refine T.Ey.F.ok MJ (fun vs H Q E h => ?_) (fun cdv A outer s H vs Q E hr h => ?_)
 ·obtain ⟨b, S, P, ow, gs, past, rfl, hb, k⟩ := h
  rfl
 ·obtain ⟨b, S, P, ow, gs, past, rfl, hb, k⟩ := h
  have hu := Ad hr
  refine ⟨_, (AE (AM (pcl T.HJ (Kf T) hr AV (AA (B0 (pv 0) rfl) AC)))), ?_⟩
  obtain ⟨dx, eb⟩ := hb.at_
  obtain ⟨as, es, ga⟩ := hb.st
  walk_at "RD"
  refine ⟨_, dx, _, eb, T.AW, T.AX, _, rfl, ?_⟩
  exact ⟨S, as, gs, rfl, SqL.of es, ga, hb.std.nd, hb.std.len, hb.std.ok, k⟩
theorem Lr : AN ["self"] ["self"] (AF E5) := by walk_at "SC"
def Lw {K : PySem.W.Frag} {mg : Str → Option Value} (T : Tx K mg) : Sp := fun vs H Q E => ∃ (b S P : Addr) (ow : List Addr) (gs : List G) (past : List (List G)), vs = [.ref b] ∧ Bch T.AT H b S P ow gs past ∧ LM.Tbl H DW Hh PK ∧ ((gs.length = 0 ∨ 12 < gs.length) → E (T.err .size) none H) ∧ (1 ≤ gs.length → gs.length ≤ 12 → ∀ D H' L q t sg, H L = none → Bn DW H H' → LM.Tbl H' DW Hh PK → Fl H' D gs L q t sg → R9 sg t → Q (.ref D) H')
theorem L8 (T : Tx K mg) : Ah P w K mg base (CXE P w) 10 T.IR T.G6 ["self"] (Lw T) := by
 refine T.Eu.F.okX Lr (fun vs H Q E h => ?_) (fun cdv A outer s H vs Q E hr h => ?_)
 ·obtain ⟨b, S, P, ow, gs, past, rfl, hb, tb, kE, k⟩ := h
  rfl
 ·obtain ⟨b, S, P, ow, gs, past, rfl, hb, tb, kE, k⟩ := h
  have hu := Ad hr
  refine ⟨_, (AD (Af (Cd (ptc B4 (AJ AQ (by rfl) T.Ay Ao (AA (B0 (pv 0) rfl) AC)) AB) (By (ptc Jt (AJ AQ (by rfl) T.Ay Ao (AA (B0 (pv 0) rfl) AC)) (Da (v := .int (12)) (by rfl) T.L9 T.Lx)))).pt (AE (BH EI rfl T.OD (by rfl) T.OY (AA BD AC)))
    AS)
   (AE (AM (pcl T.Io (Lo T) hr AV (AA (B0 (pv 0) rfl) AC))))), ?_⟩
  obtain ⟨dx, eb⟩ := hb.at_
  obtain ⟨as, es, ga⟩ := hb.st
  walk_at "RD"
  have la := ga.len
  refine ⟨_, dx, _, eb, T.AW, T.AX, _, rfl, S, rfl, _, .inl (SqL.of es), ?_⟩
  rw [List.length_map, la]
  by_cases h0 : gs.length = 0
  ·rw [if_pos (decide_eq_true (by omega))]
   exact ⟨by decide, kE (.inl h0)⟩
  ·rw [if_neg (fun z => h0 (by have := of_decide_eq_true z; omega))]
   refine ⟨_, dx, _, eb, T.AW, T.AX, _, rfl, S, rfl, _, .inl (SqL.of es), ?_⟩
   rw [List.length_map, la]
   by_cases h12 : 12 < gs.length
   ·rw [if_pos (decide_eq_true (by omega))]
    exact ⟨by decide, kE (.inr h12)⟩
   ·rw [if_neg (fun z => h12 (by have := of_decide_eq_true z; omega))]
    refine ⟨_, dx, _, eb, T.AW, T.AX, _, rfl, ?_⟩
    exact ⟨S, as, gs, rfl, SqL.of es, ga, hb.std.nd, by omega, by omega, hb.std.ok, tb, k (by omega) (by omega)⟩
theorem KF : AN ["self", "throw"] ["self", "throw"] (AF DK) := by walk_at "SC"
def KD {K : PySem.W.Frag} {mg : Str → Option Value} (T : Tx K mg) : Sp := fun vs H Q E => ∃ (b S P : Addr) (ow : List Addr) (gs : List G) (past : List (List G)) (q : Addr) (x y z v : Int), vs = [.ref b, .ref q] ∧ Bch T.AT H b S P ow gs past ∧ H q = some (.tup [.int x, .int y, .int z, .int v]) ∧ (N4 x y z v → E (T.err .badthrow) none H) ∧ (¬ N4 x y z v → ∀ D H', H D = none → AH H H' → H' D = some (.lst ((AU (gs.filter (JL x y z v))).map V.int)) → Q (.ref D) H')
theorem KH (T : Tx K mg) : Ah P w K mg base (CXE P w) 6 T.GA T.FR ["self", "throw"] (KD T) := by
 refine T.DB.F.okX KF (fun vs H Q E h => ?_) (fun cdv A outer s H vs Q E hr h => ?_)
 ·obtain ⟨b, S, P, ow, gs, past, q, x, y, z, v, rfl, hb, hq, kE, k⟩ := h
  rfl
 ·obtain ⟨b, S, P, ow, gs, past, q, x, y, z, v, rfl, hb, hq, kE, k⟩ := h
  have hu := Ad hr
  refine ⟨_, (AD (BB (pcl T.G4 (Lh T) hr J8 (AA (pv 1) AC)))
   (AE (AM (pcl T.Ct (Eb T) hr AV (AA (pv 1) (AA (B0 (pv 0) rfl) AC)))))), ?_⟩
  obtain ⟨dx, eb⟩ := hb.at_
  obtain ⟨as, es, ga⟩ := hb.st
  walk_at "RD"
  refine ⟨q, x, y, z, v, rfl, hq, kE, fun nb => ?_⟩
  refine ⟨_, dx, _, eb, T.AW, T.AX, _, rfl, ?_⟩
  exact ⟨q, S, x, y, z, v, as, gs, rfl, hq, nb, SqL.of es, ga, hb.std.len, hb.std.ok, k nb⟩
theorem TJ : AN ["_law_script", "_law_k"] ["_law_script", "_law_k"] (AF PV) := by walk_at "SC"
def GR (K : PySem.W.Frag) : Sp := fun vs H Q _ => ∃ (a : Addr) (k : Int) (ns : List Int), vs = [.ref a, .int k] ∧ 0 ≤ k ∧ SqL K H a (ns.map V.int) ∧ Q (.int (ns.getD k.toNat 0)) H
theorem Ik (T : Tx K mg) : Ah P w K mg base CX0 1 T.Qx T.Ps ["_law_script", "_law_k"] (GR K) := by
 refine T.JT.F.ok TJ (fun vs H Q E h => ?_) (fun cdv A outer s H vs Q E hr h => ?_)
 ·obtain ⟨a, k, ns, rfl, h0, hS, hq⟩ := h
  rfl
 ·obtain ⟨a, k, ns, rfl, h0, hS, hq⟩ := h
  have hu := Ad hr
  refine ⟨_, (AD (Af (ptc FN (pv 1) (AJ AQ (by rfl) T.Ay Ao (AA (pv 0) AC))) (AE (AM (pxi AR (pv 0) (pv 1))))
    AS)
   (AE (AM AB))), ?_⟩
  walk_at "RD"
  refine ⟨_, Or.inl hS, ?_⟩
  obtain ⟨k, rfl⟩ := Int.eq_ofNat_of_zero_le h0
  rw [List.length_map]
  by_cases hk : k < ns.length
  ·rw [if_pos (by simpa using hk)]
   refine ⟨_, hS, _, Db (v := V.int (ns.getD k 0)) ?_, hq⟩
   rw [List.getElem?_map, List.getElem?_eq_getElem hk, List.getD_eq_getElem?_getD, List.getElem?_eq_getElem hk]
   rfl
  ·rw [if_neg (by simpa using hk)]
   rw [Int.toNat_natCast, List.getD_eq_getElem?_getD, List.getElem?_eq_none (by omega)] at hq
   exact hq
theorem Ba : AN ["_law_cell", "_law_many", "_law_mixed", "_law_row", "_law_left", "_law_once", "_law_k"] ["_law_cell", "_law_many", "_law_mixed"] (AF Ha) := by walk_at "SC"
def Dd : Sp := fun vs H Q _ => ∃ (c m : Int) (b : Bool), vs = [.int c, .int m, .bl b] ∧ 0 ≤ m ∧ m ≤ 100 ∧ ∀ D H' (xs : List Int), H D = none → AH H H' → H' D = some (.lst (xs.map V.int)) → xs.length = m.toNat → Q (.ref D) H'
def W_spr (c m : Int) (b : Bool) (D : Addr) (H : Hp) : Nat → St → Hp → Prop := fun i σ H' => ∃ (xs : List Int) (lf on : Int) (k : Option V), σ = [some (.int c), some (.int m), some (.bl b), some (.ref D), some (.int lf), some (.int on), k] ∧ AH H H' ∧ H' D = some (.lst (xs.map V.int)) ∧ xs.length = i ∧ 0 ≤ on ∧ on < 2147483647
theorem GF (T : Tx K mg) : Ah P w K mg base CX0 1 T.LZ T.Jz ["_law_cell", "_law_many", "_law_mixed"] Dd := by
 refine T.El.F.ok Ba (fun vs H Q E h => ?_) (fun cdv A outer s H vs Q E hr h => ?_)
 ·obtain ⟨c, m, b, rfl, h0, h1, k⟩ := h
  rfl
 ·obtain ⟨c, m, b, rfl, h0, h1, k⟩ := h
  have hu := Ad hr
  refine ⟨_, (AD (pst 3 Ba (Ar AC))
   (AD (pst 4 Ba (pv 0))
   (AD (pst 5 Ba (AK Aj (pv 0) AB))
   (AD (BF PassesOwn.never rfl (Bm (by rfl) T.B3 (AA (pv 1) AC)) (pgn 6 Ba)
    (AD (pst 5 Ba (AK Aj (AK Al (AK Al (AK La (pv 5) AB) AB) (pv 6)) AB))
     (AE (Af (BO (pv 2)) (AE (BB (Be (pv 3) (AK Aj (AK Aj (AK Al (AK La (pv 5) AB) (pv 6)) AB) AB))))
      (AD (BB (Be (pv 3) (AK Aj (pv 4) AB)))
       (AE (pst 4 Ba (AK IT (pv 4) AB))))))))
   (AE (AM (pv 3))))))), ?_⟩
  walk_at "RD"
  walk_at "AUTO"
  refine ⟨_, rfl, m, rfl, by omega, by omega, A0 (n := m.toNat) (W_spr c m b p H) ⟨[], _, _, none, rfl, hs, he, rfl, by omega, by omega⟩ ?_ ?_⟩
  ·rintro i σ H1 hi ⟨xs, lf, on, k', rfl, s1, e1, hl, o1, o2⟩
   have hz : (xs.map V.int).length < sizeLine := by rw [List.length_map, PySem.sizeLine_eq]; omega
   walk_at "RD"
   walk_at "AUTO"
   cases b
   ·rw [if_neg (by decide)]
    refine ⟨⟨_, e1⟩, _, e1, hz, ?_⟩
    walk_at "AUTO"
    refine ⟨xs ++ [lf % 4004001], _, _, _, rfl, s1.updFresh hn, ?_, by rw [List.length_append, hl]; rfl, by omega, by omega⟩
    rw [AO, List.map_append]; rfl
   ·rw [if_pos rfl]
    refine ⟨⟨_, e1⟩, _, e1, hz, ?_⟩
    walk_at "AUTO"
    refine ⟨xs ++ [((on * 48271 + 11 + (0 + (i : Int))) % 2147483647 * 69621 + (0 + (i : Int))) % 2147483647 % 4004001], _, _, _, rfl, s1.updFresh hn, ?_, by rw [List.length_append, hl]; rfl, by omega, by omega⟩
    rw [AO, List.map_append]; rfl
  ·rintro σ H1 ⟨xs, lf, on, k', rfl, s1, e1, hl, o1, o2⟩
   walk_at "RD"
   exact k _ _ xs hn s1 e1 hl
theorem Et : AN ["_law_kind", "_law_line", "_law_wide", "_law_low", "_law_high", "_law_under", "_law_over"] ["_law_kind", "_law_line", "_law_wide", "_law_low", "_law_high"] (AF GL) := by walk_at "SC"
def IH : Sp := fun vs H Q _ => ∃ kd ln wd lo hi : Int, vs = [.int kd, .int ln, .int wd, .int lo, .int hi] ∧ 0 < wd ∧ wd < 10000 ∧ ∀ D H' f h, AH H H' → H' D = some (.tup [.int f, .int h]) → Q (.ref D) H'
theorem NN (T : Tx K mg) : Ah P w K mg base CX0 1 T.Jq T.Ix ["_law_kind", "_law_line", "_law_wide", "_law_low", "_law_high"] IH := by
 refine T.Jv.F.ok Et (fun vs H Q E h => ?_) (fun cdv A outer s H vs Q E hr h => ?_)
 ·obtain ⟨kd, ln, wd, lo, hi, rfl, h0, h1, k⟩ := h
  rfl
 ·obtain ⟨kd, ln, wd, lo, hi, rfl, h0, h1, k⟩ := h
  have hu := Ad hr
  refine ⟨_, (AD (pst 5 Et (AK IT (pv 1) (pv 2)))
   (AD (pst 6 Et (Fa DR (AK IT (Fa DR (pv 1)) (pv 2))))
   (AD (Af (ptc B4 (pv 0) AB) (AE (AM (AZ (AA (AK An (AK Aj (pv 3) AB) AB) (AA (AK Al (AK An (AK Aj (pv 3) AB) AB) (AK Aj (pv 4) AB)) AC)))))
    AS)
   (AD (Af (ptc B4 (pv 0) AB) (AE (AM (AZ (AA (AK An (AK Aj (pv 3) AB) AB) (AA (AK Al (AK An (AK Aj (pv 3) AB) AB) (AK Aj (pv 4) AB)) AC)))))
    AS)
   (AD (Af (Os (ptc B4 (pv 0) AB) (NT (ptc B4 (AK Aj (pv 3) AB) AB))).pt (AE (AM (AZ (AA (pv 6) (AA (AK Al (pv 6) (AK Aj (pv 4) AB)) AC)))))
    AS)
   (AD (Af (ptc B4 (pv 0) AB) (AE (AM (AZ (AA (AK An (pv 5) (AK Aj (pv 4) AB)) (AA (pv 5) AC)))))
    AS)
   (AE (AM (AZ (AA (AK An (pv 5) (AK Aj (pv 3) AB)) (AA (AK Al (pv 6) (AK Aj (pv 4) AB)) AC))))))))))), ?_⟩
  walk_at "Q"
  walk_at "RD"
  walk_at "AUTO"
  walk_at "NX"
  walk_at "Q"
  walk_at "RD"
  walk_at "AUTO"
  walk_at "NX"
  walk_at "RD"
  walk_at "AUTO"
  repeat' (first | split | exact k _ _ _ _ (by assumption) (by assumption) | walk_at "STEP")
theorem Aa : AN ["_law_script", "_law_at_here", "_law_many", "_law_cell", "_law_kind", "_law_places", "_law_lows", "_law_highs", "_law_span", "_law_near", "_law_ends", "_law_made", "_law_used", "_law_k", "_law_place", "_law_step", "_law_line", "_law_foot", "_law_head"] ["_law_script", "_law_at_here", "_law_many"] (AF JE) := by walk_at "SC"
def Lg (K : PySem.W.Frag) : Sp := fun vs H Q _ => ∃ (a : Addr) (at' many : Int) (ns : List Int), vs = [.ref a, .int at', .int many] ∧ SqL K H a (ns.map V.int) ∧ 0 ≤ at' ∧ at' ≤ 63 ∧ 0 ≤ many ∧ many ≤ 41 ∧ ∀ D H' as gs, H D = none → AH H H' → H' D = some (.lst (as.map V.ref)) → Ab H' as gs → gs.length = many.toNat → (∀ g ∈ gs, OkG g) → (gs.map G.p).Nodup → Q (.ref D) H'
def Cf (fr : St) (H : Hp) : St → Hp → Prop := fun σ H' => ∃ f h : Int, σ = fr ++ [some (.int f), some (.int h)] ∧ H' = H
structure Gb (many span near e0 e1 : Int) : Prop where
 s0 : 2 ≤ span
 s1 : span ≤ 2001
 s2 : many ≤ span
 n0 : -1000 ≤ near
 n1 : near + span ≤ 1001
 b0 : e0.natAbs ≤ 1000
 b1 : e1.natAbs ≤ 10000
structure Gl (H' : Hp) (P L R E : Addr) (ps ls rs : List Int) (e0 e1 : Int) : Prop where
 eP : H' P = some (.lst (ps.map V.int))
 eL : H' L = some (.lst (ls.map V.int))
 eR : H' R = some (.lst (rs.map V.int))
 eE : H' E = some (.lst [.int e0, .int e1])
theorem Gl.same {H H' : Hp} {P L R E : Addr} {ps ls rs : List Int} {e0 e1 : Int} (g : Gl H P L R E ps ls rs e0 e1) (s : AH H H') : Gl H' P L R E ps ls rs e0 e1 := ⟨s.get g.eP, s.get g.eL, s.get g.eR, s.get g.eE⟩
def Cg (a P L R : Addr) (at' many cl : Int) (ps ls rs : List Int) (H : Hp) : St → Hp → Prop := fun σ H' => ∃ (E : Addr) (span near e0 e1 : Int), σ = [some (.ref a), some (.int at'), some (.int many), some (.int cl), some (.int (cl / 2 % 5)), some (.ref P), some (.ref L), some (.ref R), some (.int span), some (.int near), some (.ref E), none, none, none, none, none, none, none, none] ∧ AH H H' ∧ Gl H' P L R E ps ls rs e0 e1 ∧ Gb many span near e0 e1
structure Gm (H' : Hp) (M U : Addr) (as : List Addr) (gs : List G) (kvs : List (Key × V)) (near span : Int) (i : Nat) : Prop where
 eM : H' M = some (.lst (as.map V.ref))
 at_ : Ab H' as gs
 eU : H' U = some (.dK kvs)
 len : gs.length = i
 kl : kvs.length ≤ i
 keys : ∀ z : Int, (C0 kvs (Sum.inl z : Key)).isSome = true ↔ z ∈ gs.map G.p
 ok : ∀ g ∈ gs, OkG g
 nd : (gs.map G.p).Nodup
 stretch : ∀ g ∈ gs, near ≤ g.p ∧ g.p < near + span
def Wg (a P L R E M U : Addr) (at' many cl span near : Int) (H : Hp) : Nat → St → Hp → Prop := fun i σ H' => ∃ (as : List Addr) (gs : List G) (kvs : List (Key × V)) (x1 x2 x3 x4 x5 x6 : Option V), σ = [some (.ref a), some (.int at'), some (.int many), some (.int cl), some (.int (cl / 2 % 5)), some (.ref P), some (.ref L), some (.ref R), some (.int span), some (.int near), some (.ref E), some (.ref M), some (.ref U), x1, x2, x3, x4, x5, x6] ∧ AH H H' ∧ Gm H' M U as gs kvs near span i
def Wi (a P L R E M U : Addr) (at' many cl span near : Int) (gs : List G) (kk p0 : Int) (x4 x5 x6 : Option V) (H : Hp) : Nat → St → Hp → Prop := fun j σ H' => ∃ (pl : Int) (x3 : Option V), σ = [some (.ref a), some (.int at'), some (.int many), some (.int cl), some (.int (cl / 2 % 5)), some (.ref P), some (.ref L), some (.ref R), some (.int span), some (.int near), some (.ref E), some (.ref M), some (.ref U), some (.int kk), some (.int pl), x3, x4, x5, x6] ∧ H' = H ∧ near ≤ pl ∧ pl < near + span ∧
 (pl ∉ gs.map G.p ∨ (pl = near + (p0 - near + j) % span ∧ ∀ t : Nat, t < j → near + (p0 - near + t) % span ∈ gs.map G.p))
theorem PL (T : Tx K mg) : Ah P w K mg base CX0 2 T.Ms T.LC ["_law_script", "_law_at_here", "_law_many"] (Lg K) := by
 refine T.MX.F.ok Aa (fun vs H Q E h => ?_) (fun cdv A outer s H vs Q E hr h => ?_)
 ·obtain ⟨a, at', many, ns, rfl, hS, a0, a1, m0, m1, k⟩ := h
  rfl
 ·obtain ⟨a, at', many, ns, rfl, hS, a0, a1, m0, m1, k⟩ := h
  have hu := Ad hr
  refine ⟨_, (AD (pst 3 Aa (pcl T.JT (Ik T) hr AV (AA (pv 0) (AA (pv 1) AC))))
   (AD (pst 4 Aa (AK Aj (AK IT (pv 3) AB) AB))
   (AD (pst 5 Aa (pcl T.El (GF T) hr AV (AA (pcl T.JT (Ik T) hr AV (AA (pv 0) (AA (AK Al (pv 1) AB) AC))) (AA (AK Al (pv 2) AB) (AA (pec B4 (AK Aj (pv 3) AB) AB) AC)))))
   (AD (pst 6 Aa (pcl T.El (GF T) hr AV (AA (pcl T.JT (Ik T) hr AV (AA (pv 0) (AA (AK Al (pv 1) AB) AC))) (AA (AK Al (pv 2) AB) (AA (pec B4 (AK Aj (pv 3) AB) AB) AC)))))
   (AD (pst 7 Aa (pcl T.El (GF T) hr AV (AA (pcl T.JT (Ik T) hr AV (AA (pv 0) (AA (AK Al (pv 1) AB) AC))) (AA (AK Al (pv 2) AB) (AA (pec B4 (AK Aj (pv 3) AB) AB) AC)))))
   (AD (pst 8 Aa (AJ (JJ (by rfl)) (by rfl) T.Py PX (AA AB (AA (pxi AR (Ar (AA (AK Al (pv 2) (AK Aj (pxi AR (pv 5) (pv 2)) AB)) (AA AB AC))) (AK Aj (AK IT (pv 3) AB) AB)) AC))))
   (AD (pst 9 Aa (AK An (AK Aj (pxi AR (pv 5) (AK Al (pv 2) AB)) (AK An AB (pv 8))) AB))
   (AD (pst 10 Aa (Ar (AA (AK An (AK Aj (pxi AR (pv 6) (pv 2)) AB) AB) (AA (AK An (AK Aj (pxi AR (pv 7) (pv 2)) AB) AB) AC))))
   (IS (Af (ptc B4 (pv 4) AB) (AE (On (AK Al (pxi AR (pv 10) AB) (AK La (AK An (AK Aj (pxi AR (pv 10) AB) AB) AB) (AK An (pv 8) AB))) (RX (pv 10) AB OT)))
    AS)
   (AD (pst 11 Aa (Ar AC))
   (AD (pst 12 Aa SF)
   (AD (BF PassesOwn.never rfl (Bm (by rfl) T.B3 (AA (pv 2) AC)) (pgn 13 Aa)
    (AD (pst 14 Aa (AK Al (pv 9) (AK Aj (pxi AR (pv 5) (pv 13)) (pv 8))))
     (AD (BF PassesOwn.never rfl (Bm (by rfl) T.B3 (AA (pv 13) AC)) (pgn 15 Aa)
      (AE (Af (To (Uv hu (pv 14) (pv 12))) (AE (pst 14 Aa (AK Al (pv 9) (AK Aj (AK Al (AK An (pv 14) (pv 9)) AB) (pv 8)))))
        AS)))
     (AD (SY hu (pv 12) (pv 14) DT rfl)
     (AD (pst 16 Aa (AK Al (AK La (pxi AR (pv 10) AB) (AK An (pv 8) AB)) (AK La (AK An (pxi AR (pv 10) AB) (pxi AR (pv 10) AB)) (AK An (pv 14) (pv 9)))))
     (AD (On (pcl T.Jv (NN T) hr AV (AA (pv 4) (AA (pv 16) (AA (AK An (pv 8) AB) (AA (pxi AR (pv 6) (pv 13)) (AA (pxi AR (pv 7) (pv 13)) AC)))))) (NL (n := 2) rfl (B7 (pgn 17 Aa) (B7 (pgn 18 Aa) KZ))))
     (IS (Af (Os (ptc B4 (pv 4) AB) (NT (ptc B4 (pv 13) (AK Aj (pxi AR (pv 6) (AK Al (pv 2) AB)) (pv 2))))).pt (AD (pst 17 Aa (AK An (AK Al (pv 17) (AK Aj (pxi AR (pv 7) (AK Al (pv 2) AB)) AB)) AB))
       (AE (pst 18 Aa (AK An (AK Al (pv 18) (AK Aj (pxi AR (pv 7) (AK Al (pv 2) AB)) AB)) AB))))
      AS)
     (AD (pst 17 Aa (AJ (JJ (by rfl)) (by rfl) T.Py PX (AA (Fa DR AB) (AA (AJ (Mr (by rfl)) (by rfl) T.TM RU (AA AB (AA (pv 17) AC))) AC))))
     (AE (BB (Be (pv 11) (AZ (AA (pv 14) (AA (pv 17) (AA (AJ (JJ (by rfl)) (by rfl) T.Py PX (AA (pv 17) (AA (AJ (Mr (by rfl)) (by rfl) T.TM RU (AA AB (AA (pv 18) AC))) AC))) AC)))))))))))))))
   (AE (AM (pv 11))))))))))))))), ?_⟩
  walk_at "Q"
  delta GR
  walk_at "AUTO"
  walk_at "NX"
  walk_at "Q"
  walk_at "RD"
  walk_at "NX"
  walk_at "Q"
  delta GR Dd
  walk_at "AUTO"
  intro P H1 ps nP s1 eP lP
  walk_at "NX"
  walk_at "Q"
  delta GR Dd
  walk_at "AUTO"
  intro L H2 ls nL s2 eL lL
  walk_at "NX"
  walk_at "Q"
  delta GR Dd
  walk_at "AUTO"
  intro R H3 rs nR s3 eR lR
  walk_at "NX"
  walk_at "Q"
  walk_at "RD"
  walk_at "AUTO"
  obtain ⟨sp, hsp, hsp2⟩ := atL2 (x := many + ps.getD many.toNat 0 % 9) (y := 2001) (e := ns.getD at'.toNat 0 / 10 % 2) (by omega) (by omega)
  walk_at "AUTO"
  have hspB : 2 ≤ (if sp > 2 then sp else 2) ∧ (if sp > 2 then sp else 2) ≤ 2001 ∧ many ≤ (if sp > 2 then sp else 2) := by split <;> omega
  generalize (if sp > 2 then sp else 2) = span at hspB ⊢
  obtain ⟨hb1, hb2, hb3⟩ := hspB
  walk_at "NX"
  walk_at "Q"
  walk_at "RD"
  walk_at "AUTO"
  walk_at "NX"
  have hnear := Int.emod_nonneg (ps.getD (many + 1).toNat 0) (show (2002 - span) ≠ 0 by omega)
  have hnear2 := Int.emod_lt_of_pos (ps.getD (many + 1).toNat 0) (show 0 < 2002 - span by omega)
  generalize ps.getD (many + 1).toNat 0 % (2002 - span) = nr at hnear hnear2 ⊢
  walk_at "Q"
  walk_at "RD"
  walk_at "AUTO"
  walk_at "NX"
  have hp0 : H p = none := AH.free (by walk_at "SAME8") hn
  refine ⟨Cg a P L R at' many (ns.getD at'.toNat 0) ps ls rs H, ?_, ?_⟩
  ·walk_at "RD"
   split
   ·walk_at "AUTO"
    have hq := Bu (show ((rs.getD many.toNat 0 % 2001 - 1000) % 7 - 3).natAbs ≤ 3 by omega) (show (span - 1).natAbs ≤ 2000 by omega)
    refine ⟨p, span, _, _, _, rfl, AH.updFresh (by walk_at "SAME8") hp0, ⟨?_, ?_, ?_, AO⟩, ⟨hb1, hb2, hb3, by omega, by omega, by omega, ?_⟩⟩
    ·rw [AG (AI (o := .lst (ps.map V.int)) (by walk_at "SAT8") hn)]; walk_at "SAT8"
    ·rw [AG (AI (o := .lst (ls.map V.int)) (by walk_at "SAT8") hn)]; walk_at "SAT8"
    ·rw [AG (AI (o := .lst (rs.map V.int)) (by walk_at "SAT8") hn)]; walk_at "SAT8"
    ·omega
   ·exact ⟨p, span, _, _, _, rfl, (by walk_at "SAME8"), ⟨by walk_at "SAT8", by walk_at "SAT8", by walk_at "SAT8", by walk_at "SAT8"⟩, ⟨hb1, hb2, hb3, by omega, by omega, by omega, by omega⟩⟩
  clear hnear hnear2 hp0 hsp hsp2 he hs hn p H' nr hb1 hb2 hb3 span sp
  rintro σ1 H5 ⟨E, span, near, e0, e1, rfl, s5, gl, gb⟩
  obtain ⟨hb1, hb2, hb3, hb4, hb5, hb6, hb7⟩ := id gb
  walk_at "Q"
  walk_at "RD"
  refine ⟨by decide, fun Ma H6 nM s6 eM => ?_⟩
  walk_at "NX"
  walk_at "Q"
  walk_at "RD"
  intro U H7 nU s7 eU
  walk_at "NX"
  have nU5 : H5 U = none := s6.free nU
  have n0M : H Ma = none := s5.free nM
  refine F5 fun M0 hM0 => ?_
  walk_at "RD"
  refine ⟨_, rfl, many, rfl, by omega, by omega, A0 (n := many.toNat) (Wg a P L R E Ma U at' many (ns.getD at'.toNat 0) span near H5) ⟨[], [], [], none, none, none, none, none, none, rfl, s6.trans s7, ⟨s7.get eM, .nil, eU, rfl, Nat.le_refl _, fun z => by simp [C0], fun _ h => absurd h (by simp), by simp, fun _ h => absurd h (by simp)⟩⟩ ?_ ?_⟩
  ·rintro i σ H8 hi ⟨as, gs, kvs, x1, x2, x3, x4, x5, x6, rfl, s8, gm⟩
   have gl8 := gl.same s8
   have eP8 := gl8.eP
   have eL8 := gl8.eL
   have eR8 := gl8.eR
   have eE8 := gl8.eE
   dsimp only [EO, List.set_cons_succ, List.set_cons_zero]
   walk_at "Q"
   walk_at "RD"
   walk_at "AUTO"
   walk_at "NX"
   generalize hp0 : near + ps.getD (0 + (i : Int)).toNat 0 % span = p0
   have q1 := Int.emod_nonneg (ps.getD (0 + (i : Int)).toNat 0) (show span ≠ 0 by omega)
   have q2 := Int.emod_lt_of_pos (ps.getD (0 + (i : Int)).toNat 0) (show 0 < span by omega)
   have hl1 : near ≤ p0 := by omega
   have hl2 : p0 < near + span := by omega
   walk_at "Q"
   walk_at "RD"
   refine ⟨_, rfl, 0 + (i : Int), rfl, by omega, by omega, A0 (n := (0 + (i : Int)).toNat) (Wi a P L R E Ma U at' many (ns.getD at'.toNat 0) span near gs (0 + (i : Int)) p0 x4 x5 x6 H8) ⟨p0, x3, rfl, rfl, hl1, hl2, .inr ⟨?_, fun t ht => absurd ht (by omega)⟩⟩ ?_ ?_⟩
   ·rw [show p0 - near + ((0 : Nat) : Int) = p0 - near by omega, Int.emod_eq_of_lt (by omega) (by omega)]; omega
   ·rintro j σ H9 hj ⟨pl, y3, rfl, rfl, l1, l2, hor⟩
    walk_at "RD"
    refine ⟨_, N6.k (k := Sum.inl pl) gm.eU, ?_⟩
    by_cases hu' : pl ∈ gs.map G.p
    ·rw [if_pos ((gm.keys pl).mpr hu')]
     walk_at "AUTO"
     have r1 := Int.emod_nonneg (pl - near + 1) (show span ≠ 0 by omega)
     have r2 := Int.emod_lt_of_pos (pl - near + 1) (show 0 < span by omega)
     refine ⟨_, _, rfl, rfl, by omega, by omega, .inr ?_⟩
     rcases hor with z | ⟨z1, z2⟩
     ·exact absurd hu' z
     ·refine ⟨?_, fun t ht => ?_⟩
      ·rw [z1, show near + (p0 - near + (j : Int)) % span - near + 1 = (p0 - near + (j : Int)) % span + 1 by omega, Int.emod_add_emod, show p0 - near + (j : Int) + 1 = p0 - near + ((j + 1 : Nat) : Int) by omega]
      ·rcases (by omega : t < j ∨ t = j) with e | e
       ·exact z2 t e
       ·subst e; rw [← z1]; exact hu'
    ·rw [if_neg (fun z => hu' ((gm.keys pl).mp z))]
     exact ⟨pl, _, rfl, rfl, l1, l2, .inl hu'⟩
   ·rintro σ H9 ⟨pl, y3, rfl, rfl, l1, l2, hor⟩
    have hfree : pl ∉ gs.map G.p := by
     rcases hor with z | ⟨z1, z2⟩
     ·exact z
     ·intro hin
      have hlen : (gs.map G.p).length = i := by rw [List.length_map]; exact gm.len
      refine OE (near := near) (span := span) (o := p0 - near) (used := gs.map G.p) (by rw [hlen]; omega) fun t ht => ?_
      rw [hlen] at ht
      rcases (by omega : t < i ∨ t = i) with e | e
      ·exact z2 t (by omega)
      ·subst e
       rw [show (((0 + (t : Int)).toNat : Nat) : Int) = (t : Int) by omega] at z1
       rw [← z1]; exact hin
    walk_at "NX"
    refine F5 fun Md hM => ?_
    walk_at "RD"
    refine ⟨_, R1.k (k := Sum.inl pl) gm.eU (by rw [PySem.sizeLine_eq]; have := gm.kl; omega), ?_⟩
    refine hM _ _ ?_
    clear hM Md
    have hMU : Ma ≠ U := GG gm.eM gm.eU (by intro z; cases z)
    have s9 : AH H5 (upd H9 U (.dK (Dp kvs (Sum.inl pl) (V.bl true)))) := s8.updFresh nU5
    have eM9 : upd H9 U (.dK (Dp kvs (Sum.inl pl) (V.bl true))) Ma = some (.lst (as.map V.ref)) := by rw [AG hMU]; exact gm.eM
    have eU9 : upd H9 U (.dK (Dp kvs (Sum.inl pl) (V.bl true))) U = some (.dK (Dp kvs (Sum.inl pl) (V.bl true))) := AO
    have at9 := gm.at_.upd (u := .dK (Dp kvs (Sum.inl pl) (V.bl true))) gm.eU (by intro ys z; cases z)
    generalize upd H9 U (.dK (Dp kvs (Sum.inl pl) (V.bl true))) = HA at s9 eM9 eU9 at9 ⊢
    have glA := gl.same s9
    have ePA := glA.eP
    have eLA := glA.eL
    have eRA := glA.eR
    have eEA := glA.eE
    clear eP8 eL8 eR8 eE8 gl8
    refine F5 fun Md hM => ?_
    walk_at "RD"
    walk_at "AUTO"
    refine hM _ _ ?_
    clear hM Md
    refine F5 fun Md hM => ?_
    delta IH
    walk_at "AUTO"
    intro TT HB f h sB eB
    walk_at "AUTO"
    refine ⟨rfl, _, _, rfl, _, _, rfl, rfl, ?_⟩
    refine hM _ _ ?_
    clear hM Md
    refine ⟨Cf [some (V.ref a), some (V.int at'), some (V.int many), some (V.int (ns.getD at'.toNat 0)), some (V.int (ns.getD at'.toNat 0 / 2 % 5)), some (V.ref P), some (V.ref L), some (V.ref R), some (V.int span), some (V.int near), some (V.ref E), some (V.ref Ma), some (V.ref U), some (V.int (0 + (i : Int))), some (V.int pl), y3, some (V.int (e0 * (span - 1) + (e1 - e0) * (pl - near)))] HB, ?_, ?_⟩
    ·walk_at "RD"
     split
     ·walk_at "AUTO"
      split
      ·walk_at "AUTO"
       exact ⟨_, _, rfl, rfl⟩
      ·exact ⟨_, _, rfl, rfl⟩
     ·exact ⟨_, _, rfl, rfl⟩
    rintro σ HB' ⟨f1, h1, rfl, rfl⟩
    walk_at "Q"
    walk_at "RD"
    have eMB := sB.get eM9
    have hff : ∃ f2 : Int, (if (if f1 < 1000 then f1 else 1000) > -1000 then if f1 < 1000 then f1 else 1000 else -1000) = f2 ∧ -1000 ≤ f2 ∧ f2 ≤ 1000 := ⟨_, rfl, by (repeat' split) <;> omega, by (repeat' split) <;> omega⟩
    obtain ⟨f2, ef2, f3, f4⟩ := hff
    rw [ef2]
    walk_at "NX"
    have hhh : ∃ h2 : Int, (if (if h1 < 1000 then h1 else 1000) > f2 then if h1 < 1000 then h1 else 1000 else f2) = h2 ∧ f2 ≤ h2 ∧ h2 ≤ 1000 := ⟨_, rfl, by (repeat' split) <;> omega, by (repeat' split) <;> omega⟩
    obtain ⟨h2, eh2, h3, h4⟩ := hhh
    walk_at "RD"
    rw [eh2]
    refine ⟨⟨_, eMB⟩, by decide, fun TP HC nC sC eC => ?_⟩
    have eMC := sC.get eMB
    have eUC := sC.get (sB.get eU9)
    have atC := (at9.same sB).same sC
    have sAll := (s9.trans sB).trans sC
    have lk := gm.kl
    have lg := gm.len
    have la := at9.len
    refine ⟨_, eMC, by rw [List.length_map, PySem.sizeLine_eq]; omega, as ++ [TP], gs ++ [⟨pl, f2, h2⟩], Dp kvs (Sum.inl pl) (V.bl true), _, _, _, _, _, _, rfl, sAll.updFresh nM, ?_⟩
    have hkey : ∀ z : Int, (C0 (Dp kvs (Sum.inl pl : Key) (V.bl true)) (Sum.inl z)).isSome = true ↔ z ∈ (gs ++ [⟨pl, f2, h2⟩] : List G).map G.p := fun z => by
     rw [Rw, List.map_append, List.mem_append]
     by_cases e : z = pl
     ·subst e; simp
     ·rw [if_neg (fun q => e (Sum.inl.inj q)), gm.keys z]
      simp [e]
    refine ⟨by rw [AO, List.map_append]; rfl, ?_, by rw [AG (Ne.symm hMU)]; exact eUC, by rw [List.length_append, lg]; rfl, Nat.le_trans (Fy ..) (by omega), hkey, fun g hg => ?_, ?_, fun g hg => ?_⟩
    ·exact (atC.snoc (a := TP) (g := ⟨pl, f2, h2⟩) eC).upd eMC (by intro ys z; cases z)
    ·rcases List.mem_append.mp hg with z | z
     ·exact gm.ok g z
     ·rw [List.mem_singleton.mp z]
      exact ⟨by show -1000 ≤ pl; omega, by show pl ≤ 1000; omega, f3, h3, h4⟩
    ·rw [List.map_append]
     exact Pp gm.nd hfree
    ·rcases List.mem_append.mp hg with z | z
     ·exact gm.stretch g z
     ·rw [List.mem_singleton.mp z]
      exact ⟨l1, l2⟩
  ·rintro σ H8 ⟨as, gs, kvs, x1, x2, x3, x4, x5, x6, rfl, s8, gm⟩
   refine hM0 _ _ ?_; clear hM0 M0
   walk_at "RD"
   exact k Ma _ as gs n0M (s5.trans s8) gm.eM gm.at_ gm.len gm.ok gm.nd
theorem O0 : AN ["_law_found"] ["_law_found"] (AF Jl) := by walk_at "SC"
def HX : Sp := fun vs H Q _ => ∃ i : Int, vs = [.int i] ∧ Q (.bl true) H
theorem HW (T : Tx K mg) : Ah P w K mg base CX0 1 T.Mt T.Li ["_law_found"] HX := by
 refine T.GY.F.ok O0 (fun vs H Q E h => ?_) (fun cdv A outer s H vs Q E hr h => ?_)
 ·obtain ⟨i, rfl, hq⟩ := h
  rfl
 ·obtain ⟨i, rfl, hq⟩ := h
  have hu := Ad hr
  refine ⟨_, (AE (AM (Jd (AJ Av (by rfl) T.Ac AY (AA (pv 0) (AA (At (v := .ty "int") (by rfl) T.Q8 Op rfl) AC))) (Na (Qw (AJ Av (by rfl) T.Ac AY (AA (pv 0) (AA (At (v := .ty "bool") (by rfl) T.PD NB rfl) AC)))))))), ?_⟩
  walk_at "RD"
  refine ⟨_, .int i, true, rfl, ?_⟩
  rw [if_pos rfl]
  exact ⟨_, .int i, false, rfl, hq⟩
theorem Iu : AN ["_law_found", "_law_due", "_law_k"] ["_law_found", "_law_due"] (AF Fc) := by walk_at "SC"
def Hl (K : PySem.W.Frag) : Sp := fun vs H Q _ => ∃ (x y : Addr) (xs : List Int), vs = [.ref x, .ref y] ∧ H x = some (.tup (xs.map V.int)) ∧ SqT K H y (xs.map V.int) ∧ xs.length ≤ 1000 ∧ Q (.bl true) H
def W_num (x y : Addr) (H : Hp) : Nat → St → Hp → Prop := fun i σ H' => ∃ k, σ = [some (.ref x), some (.ref y), k] ∧ H' = H
theorem NM (T : Tx K mg) : Ah P w K mg base CX0 2 T.Js T.Iq ["_law_found", "_law_due"] (Hl K) := by
 refine T.J7.F.ok Iu (fun vs H Q E h => ?_) (fun cdv A outer s H vs Q E hr h => ?_)
 ·obtain ⟨x, y, xs, rfl, ex, ey, hl, k⟩ := h
  rfl
 ·obtain ⟨x, y, xs, rfl, ex, ey, hl, k⟩ := h
  have hu := Ad hr
  refine ⟨_, (AD (Af (Cd (CN (BO (AJ Av (by rfl) T.Ac AY (AA (pv 0) (AA (At (v := .ty "tuple") (by rfl) T.Ka IL rfl) AC))))) (By (ptc FB (AJ AQ (by rfl) T.Ay Ao (AA (pv 0) AC)) (AJ AQ (by rfl) T.Ay Ao (AA (pv 1) AC))))).pt (AE (AM DT))
    AS)
   (AD (BF PassesOwn.never rfl (Bm (by rfl) T.B3 (AA (AJ AQ (by rfl) T.Ay Ao (AA (pv 1) AC)) AC)) (pgn 2 Iu)
    (AE (Af (Cd (CN (BO (pcl T.GY (HW T) hr AV (AA (pxi AL (pv 0) (pv 2)) AC)))) (By (ptc FB (pxi AL (pv 0) (pv 2)) (pxi AL (pv 1) (pv 2))))).pt (AE (AM DT))
      AS)))
   (AE (AM DT)))), ?_⟩
  walk_at "RD"
  walk_at "AUTO"
  refine ⟨_, rfl, _, rfl, _, Or.inr ey, ((xs.map V.int).length : Int), rfl, by rw [List.length_map]; omega, by rw [List.length_map]; omega, A0 (n := (((xs.map V.int).length : Nat) : Int).toNat) (W_num x y H) ⟨none, rfl, rfl⟩ ?_ ?_⟩
  ·rintro i σ H1 hi ⟨k', rfl, rfl⟩
   rw [List.length_map] at hi
   delta HX
   walk_at "AUTO"
   exact ⟨_, rfl, rfl⟩
  ·rintro σ H1 ⟨k', rfl, rfl⟩
   walk_at "RD"
   exact k
theorem MO : AN ["_law_found", "_law_due", "_law_k"] ["_law_found", "_law_due"] (AF K5) := by walk_at "SC"
def QY (K : PySem.W.Frag) : Sp := fun vs H Q _ => ∃ (x y : Addr) (as bs : List Addr) (gs : List G), vs = [.ref x, .ref y] ∧ H x = some (.lst (as.map V.ref)) ∧ SqL K H y (bs.map V.ref) ∧ Ab H as gs ∧ Ab H bs gs ∧ gs.length ≤ 1000 ∧ Q (.bl true) H
def W_row (x y : Addr) (H : Hp) : Nat → St → Hp → Prop := fun i σ H' => ∃ k, σ = [some (.ref x), some (.ref y), k] ∧ H' = H
theorem QM (T : Tx K mg) : Ah P w K mg base CX0 3 T.Nr T.Mp ["_law_found", "_law_due"] (QY K) := by
 refine T.Oa.F.ok MO (fun vs H Q E h => ?_) (fun cdv A outer s H vs Q E hr h => ?_)
 ·obtain ⟨x, y, as, bs, gs, rfl, ex, ey, ga, gb, hl, k⟩ := h
  rfl
 ·obtain ⟨x, y, as, bs, gs, rfl, ex, ey, ga, gb, hl, k⟩ := h
  have hu := Ad hr
  refine ⟨_, (AD (Af (Cd (CN (BO (AJ Av (by rfl) T.Ac AY (AA (pv 0) (AA (At (v := .ty "list") (by rfl) T.Bd A8 rfl) AC))))) (By (ptc FB (AJ AQ (by rfl) T.Ay Ao (AA (pv 0) AC)) (AJ AQ (by rfl) T.Ay Ao (AA (pv 1) AC))))).pt (AE (AM DT))
    AS)
   (AD (BF PassesOwn.never rfl (Bm (by rfl) T.B3 (AA (AJ AQ (by rfl) T.Ay Ao (AA (pv 1) AC)) AC)) (pgn 2 MO)
    (AE (Af (CN (BO (pcl T.J7 (NM T) hr AV (AA (pxi AR (pv 0) (pv 2)) (AA (pxi AR (pv 1) (pv 2)) AC))))) (AE (AM DT))
      AS)))
   (AE (AM DT)))), ?_⟩
  have la := ga.len
  have lb := gb.len
  walk_at "RD"
  walk_at "AUTO"
  refine ⟨_, rfl, _, rfl, _, Or.inl ey, ((bs.map V.ref).length : Int), rfl, by rw [List.length_map]; omega, by rw [List.length_map]; omega, A0 (n := (((bs.map V.ref).length : Nat) : Int).toNat) (W_row x y H) ⟨none, rfl, rfl⟩ ?_ ?_⟩
  ·rintro i σ H1 hi ⟨k', rfl, rfl⟩
   rw [List.length_map] at hi
   have hig : i < gs.length := by omega
   obtain ⟨a1, ha1, e1⟩ := ga.get (List.getElem?_eq_getElem hig)
   obtain ⟨b1, hb1, e2⟩ := gb.get (List.getElem?_eq_getElem hig)
   have h1 : atI (as.map V.ref) (0 + (i : Int)) = some (V.ref a1) := by rw [Int.zero_add]; exact Bo ha1
   have h2 : atI (bs.map V.ref) (0 + (i : Int)) = some (V.ref b1) := by rw [Int.zero_add]; exact Bo hb1
   delta Hl
   refine ⟨_, SqL.of ex, _, h1, _, ey, _, h2, _, rfl, _, rfl, [gs[i].p, gs[i].f, gs[i].h], e1, SqT.of e2, (by show 3 ≤ 1000; decide), ?_⟩
   exact ⟨_, rfl, rfl⟩
  ·rintro σ H1 ⟨k', rfl, rfl⟩
   walk_at "RD"
   exact k
theorem M1 : AN ["_law_found", "_law_due", "_law_k"] ["_law_found", "_law_due"] (AF LG) := by walk_at "SC"
def QR (K : PySem.W.Frag) : Sp := fun vs H Q _ => ∃ (x y : Addr) (xs : List Int), vs = [.ref x, .ref y] ∧ H x = some (.lst (xs.map V.int)) ∧ SqL K H y (xs.map V.int) ∧ xs.length ≤ 1000 ∧ Q (.bl true) H
def W_lst (x y : Addr) (H : Hp) : Nat → St → Hp → Prop := fun i σ H' => ∃ k, σ = [some (.ref x), some (.ref y), k] ∧ H' = H
theorem QU (T : Tx K mg) : Ah P w K mg base CX0 2 T.Of T.Mx ["_law_found", "_law_due"] (QR K) := by
 refine T.OQ.F.ok M1 (fun vs H Q E h => ?_) (fun cdv A outer s H vs Q E hr h => ?_)
 ·obtain ⟨x, y, xs, rfl, ex, ey, hl, k⟩ := h
  rfl
 ·obtain ⟨x, y, xs, rfl, ex, ey, hl, k⟩ := h
  have hu := Ad hr
  refine ⟨_, (AD (Af (Cd (CN (BO (AJ Av (by rfl) T.Ac AY (AA (pv 0) (AA (At (v := .ty "list") (by rfl) T.Bd A8 rfl) AC))))) (By (ptc FB (AJ AQ (by rfl) T.Ay Ao (AA (pv 0) AC)) (AJ AQ (by rfl) T.Ay Ao (AA (pv 1) AC))))).pt (AE (AM DT))
    AS)
   (AD (BF PassesOwn.never rfl (Bm (by rfl) T.B3 (AA (AJ AQ (by rfl) T.Ay Ao (AA (pv 1) AC)) AC)) (pgn 2 M1)
    (AE (Af (Cd (CN (BO (pcl T.GY (HW T) hr AV (AA (pxi AR (pv 0) (pv 2)) AC)))) (By (ptc FB (pxi AR (pv 0) (pv 2)) (pxi AR (pv 1) (pv 2))))).pt (AE (AM DT))
      AS)))
   (AE (AM DT)))), ?_⟩
  walk_at "RD"
  walk_at "AUTO"
  refine ⟨_, rfl, _, rfl, _, Or.inl ey, ((xs.map V.int).length : Int), rfl, by rw [List.length_map]; omega, by rw [List.length_map]; omega, A0 (n := (((xs.map V.int).length : Nat) : Int).toNat) (W_lst x y H) ⟨none, rfl, rfl⟩ ?_ ?_⟩
  ·rintro i σ H1 hi ⟨k', rfl, rfl⟩
   rw [List.length_map] at hi
   delta HX
   walk_at "AUTO"
   exact ⟨_, rfl, rfl⟩
  ·rintro σ H1 ⟨k', rfl, rfl⟩
   walk_at "RD"
   exact k
theorem Mn : AN ["_law_one", "_law_two", "_law_deep", "_law_k"] ["_law_one", "_law_two", "_law_deep"] (AF Kx) := by walk_at "SC"
def GZ {K : PySem.W.Frag} {mg : Str → Option Value} (T : Tx K mg) (n : Nat) : Sp := fun vs H Q _ => ∃ (x : Tr) (u v : V), vs = [u, v, .int n] ∧ Enc H x u ∧ Enc H x v ∧ Tr.ok n x ∧ n ≤ 6 ∧ ∀ H', AH H H' → Q (.bl true) H'
theorem MZ (T : Tx K mg) (n : Nat) (sp0 : Sp) (F0 : Ah P w K mg base CX0 n T.FZ T.ET ["_law_one", "_law_two", "_law_deep"] sp0) (h0 : ∀ m, n = m + 1 → sp0 = GZ T m) : Ah P w K mg base CX0 (n + 1) T.FZ T.ET ["_law_one", "_law_two", "_law_deep"] (GZ T n) := by
 refine T.Lf.F.ok Mn (fun vs H Q E h => ?_) (fun cdv A outer s H vs Q E hr h => ?_)
 ·obtain ⟨x, u, v, rfl, e1, e2, ok, n6, k⟩ := h
  rfl
 ·obtain ⟨x, u, v, rfl, e1, e2, ok, n6, k⟩ := h
  have hu := Ad hr
  refine ⟨_, (AD (Af (Os (BO (AJ call_isT (by rfl) T.Ac AY (AA (pv 0) (AA (AZ (AA (At (v := .ty "list") (by rfl) T.Bd A8 rfl) (AA (At (v := .ty "tuple") (by rfl) T.Ka IL rfl) AC))) AC)))) (NT (BO (AJ call_isT (by rfl) T.Ac AY (AA (pv 1) (AA (AZ (AA (At (v := .ty "list") (by rfl) T.Bd A8 rfl) (AA (At (v := .ty "tuple") (by rfl) T.Ka IL rfl) AC))) AC)))))).pt (AD (Af (Cd (ptc FB (AJ Av (by rfl) T.Ac AY (AA (pv 0) (AA (At (v := .ty "list") (by rfl) T.Bd A8 rfl) AC))) (AJ Av (by rfl) T.Ac AY (AA (pv 1) (AA (At (v := .ty "list") (by rfl) T.Bd A8 rfl) AC)))) (Cd (ptc FB (AJ AQ (by rfl) T.Ay Ao (AA (pv 0) AC)) (AJ AQ (by rfl) T.Ay Ao (AA (pv 1) AC))) (By (ptc B4 (pv 2) AB)))).pt (AE (AM DT))
      AS)
     (AD (BF PassesOwn.never rfl (Bm (by rfl) T.B3 (AA (AJ AQ (by rfl) T.Ay Ao (AA (pv 0) AC)) AC)) (pgn 3 Mn)
      (AE (Af (CN (BO (pcl (hk := Nat.le_refl _) T.Lf F0 hr AV (AA (pxi (TV AR AL) (pv 0) (pv 3)) (AA (pxi (TV AR AL) (pv 1) (pv 3)) (AA (AK An (pv 2) AB) AC)))))) (AE (AM DT))
        AS)))
     (AE (AM DT))))
    AS)
   (AD (Af (Cd (BO (AJ Av (by rfl) T.Ac AY (AA (pv 0) (AA (At (v := .ty "bool") (by rfl) T.PD NB rfl) AC)))) (By (CN (BO (AJ call_isT (by rfl) T.Ac AY (AA (pv 0) (AA (AZ (AA (At (v := .ty "int") (by rfl) T.Q8 Op rfl) (AA (At (v := .ty "str") (by rfl) T.Tg Q5 rfl) AC))) AC))))))).pt (AE (AM DT))
    AS)
   (AE (AM (Jd (AJ call_isT (by rfl) T.Ac AY (AA (pv 1) (AA (AZ (AA (At (v := .ty "int") (by rfl) T.Q8 Op rfl) (AA (At (v := .ty "str") (by rfl) T.Tg Q5 rfl) AC))) AC))) (Jd (Qw (AJ Av (by rfl) T.Ac AY (AA (pv 1) (AA (At (v := .ty "bool") (by rfl) T.PD NB rfl) AC)))) (Na (pec B4 (pv 0) (pv 1))))))))), ?_⟩
  cases x with
  | i i =>
   cases (show u = .int i from e1)
   cases (show v = .int i from e2)
   walk_at "Q"
   walk_at "RD"
   delta rIsT
   refine ⟨by decide, fun p1 H1 n1 s1 f1 => ⟨.type "int", ["list", "tuple"], f1, .int _, false, rfl, ?_⟩⟩
   rw [if_neg (by decide)]
   walk_at "NX"
   walk_at "Q"
   walk_at "RD"
   delta rIsT
   refine ⟨_, .int _, false, rfl, ?_⟩
   rw [if_neg (by decide)]
   refine ⟨by decide, fun p2 H2 n2 s2 f2 => ⟨_, ["int", "str"], f2, .int _, true, rfl, ?_⟩⟩
   rw [if_neg (by decide)]
   walk_at "NX"
   walk_at "RD"
   delta rIsT
   refine ⟨by decide, fun p3 H3 n3 s3 f3 => ⟨_, ["int", "str"], f3, .int _, true, rfl, ?_⟩⟩
   rw [if_pos rfl]
   refine ⟨_, .int _, false, rfl, ?_⟩
   exact k _ ((s1.trans s2).trans s3)
  | s i =>
   cases (show u = .str i from e1)
   cases (show v = .str i from e2)
   walk_at "Q"
   walk_at "RD"
   delta rIsT
   refine ⟨by decide, fun p1 H1 n1 s1 f1 => ⟨.type "str", ["list", "tuple"], f1, .str _, false, rfl, ?_⟩⟩
   rw [if_neg (by decide)]
   walk_at "NX"
   walk_at "Q"
   walk_at "RD"
   delta rIsT
   refine ⟨_, .str _, false, rfl, ?_⟩
   rw [if_neg (by decide)]
   refine ⟨by decide, fun p2 H2 n2 s2 f2 => ⟨_, ["int", "str"], f2, .str _, true, rfl, ?_⟩⟩
   rw [if_neg (by decide)]
   walk_at "NX"
   walk_at "RD"
   delta rIsT
   refine ⟨by decide, fun p3 H3 n3 s3 f3 => ⟨_, ["int", "str"], f3, .str _, true, rfl, ?_⟩⟩
   rw [if_pos rfl]
   refine ⟨_, .str _, false, rfl, ?_⟩
   exact k _ ((s1.trans s2).trans s3)
  | l xs =>
   obtain ⟨p, vs, rfl, hp, ep⟩ := e1
   obtain ⟨q, us, rfl, hq, eq⟩ := e2
   obtain ⟨m, rfl, l1, okl⟩ := ok
   have lv := ep.len
   have lu := eq.len
   cases h0 m rfl
   walk_at "Q"
   walk_at "RD"
   delta rIsT
   refine ⟨by decide, fun p1 H1 n1 s1 f1 => ⟨.type "list", ["list", "tuple"], f1, .lst (s1.get hp), true, rfl, ?_⟩⟩
   rw [if_pos rfl]
   refine ⟨by decide, fun p2 H2 n2 s2 f2 => ⟨.type "list", ["list", "tuple"], f2, .lst (s2.get (s1.get hq)), true, rfl, ?_⟩⟩
   rw [if_pos rfl]
   have s02 := s1.trans s2
   have hp2 := s02.get hp
   have hq2 := s02.get hq
   refine ⟨_, .lst hp2, _, rfl, _, .lst hq2, _, rfl, ?_⟩
   rw [if_neg (by decide)]
   refine ⟨vs, .inl (SqL.of hp2), us, .inl (SqL.of hq2), ?_⟩
   rw [if_neg (by rw [lv, lu]; simp), if_neg (by rw [decide_eq_true_eq]; omega)]
   refine ⟨_, rfl, _, rfl, vs, .inl (SqL.of hp2), (vs.length : Int), rfl, by omega, by omega, A0 (n := ((vs.length : Int)).toNat) (fun _ σ H' => ∃ o, σ = [some (.ref p), some (.ref q), some (.int ((m + 1 : Nat) : Int)), o] ∧ AH H H') ⟨_, rfl, s02⟩ ?_ ?_⟩
   ·rintro i σ H3 hi ⟨o, rfl, s3⟩
    walk_at "RD"
    have hx : i < xs.length := by omega
    have gx := List.getElem?_eq_getElem hx
    obtain ⟨va, ga, ea⟩ := ep.get gx
    obtain ⟨vb, gb, eb⟩ := eq.get gx
    have em : (((m + 1 : Nat) : Int) - 1) = (m : Int) := by omega
    have zi : (0 + (i : Int)) = (i : Int) := by omega
    rw [em, zi]
    refine .inl ⟨vs, SqL.of (s3.get hp), va, Db ga, .inl ⟨us, SqL.of (s3.get hq), vb, Db gb, ?_⟩⟩
    refine ⟨xs[i], va, vb, rfl, ea.same s3, eb.same s3, okL_mem okl gx, by omega, fun H4 s4 => ⟨true, rfl, ?_⟩⟩
    rw [if_neg (by decide)]
    exact ⟨⟨_, rfl⟩, s3.trans s4⟩
   ·rintro σ H3 ⟨o, rfl, s3⟩
    walk_at "RD"
    exact k _ s3
  | t xs =>
   obtain ⟨p, vs, rfl, hp, ep⟩ := e1
   obtain ⟨q, us, rfl, hq, eq⟩ := e2
   obtain ⟨m, rfl, l1, okl⟩ := ok
   have lv := ep.len
   have lu := eq.len
   cases h0 m rfl
   walk_at "Q"
   walk_at "RD"
   delta rIsT
   refine ⟨by decide, fun p1 H1 n1 s1 f1 => ⟨.type "tuple", ["list", "tuple"], f1, .tup (s1.get hp), true, rfl, ?_⟩⟩
   rw [if_pos rfl]
   refine ⟨by decide, fun p2 H2 n2 s2 f2 => ⟨.type "tuple", ["list", "tuple"], f2, .tup (s2.get (s1.get hq)), true, rfl, ?_⟩⟩
   rw [if_pos rfl]
   have s02 := s1.trans s2
   have hp2 := s02.get hp
   have hq2 := s02.get hq
   refine ⟨_, .tup hp2, _, rfl, _, .tup hq2, _, rfl, ?_⟩
   rw [if_neg (by decide)]
   refine ⟨vs, .inr (SqT.of hp2), us, .inr (SqT.of hq2), ?_⟩
   rw [if_neg (by rw [lv, lu]; simp), if_neg (by rw [decide_eq_true_eq]; omega)]
   refine ⟨_, rfl, _, rfl, vs, .inr (SqT.of hp2), (vs.length : Int), rfl, by omega, by omega, A0 (n := ((vs.length : Int)).toNat) (fun _ σ H' => ∃ o, σ = [some (.ref p), some (.ref q), some (.int ((m + 1 : Nat) : Int)), o] ∧ AH H H') ⟨_, rfl, s02⟩ ?_ ?_⟩
   ·rintro i σ H3 hi ⟨o, rfl, s3⟩
    walk_at "RD"
    have hx : i < xs.length := by omega
    have gx := List.getElem?_eq_getElem hx
    obtain ⟨va, ga, ea⟩ := ep.get gx
    obtain ⟨vb, gb, eb⟩ := eq.get gx
    have em : (((m + 1 : Nat) : Int) - 1) = (m : Int) := by omega
    have zi : (0 + (i : Int)) = (i : Int) := by omega
    rw [em, zi]
    refine .inr ⟨vs, SqT.of (s3.get hp), va, Db ga, .inr ⟨us, SqT.of (s3.get hq), vb, Db gb, ?_⟩⟩
    refine ⟨xs[i], va, vb, rfl, ea.same s3, eb.same s3, okL_mem okl gx, by omega, fun H4 s4 => ⟨true, rfl, ?_⟩⟩
    rw [if_neg (by decide)]
    exact ⟨⟨_, rfl⟩, s3.trans s4⟩
   ·rintro σ H3 ⟨o, rfl, s3⟩
    walk_at "RD"
    exact k _ s3
theorem M4 (T : Tx K mg) : ∀ n, Ah P w K mg base CX0 (n + 1) T.FZ T.ET ["_law_one", "_law_two", "_law_deep"] (GZ T n)
 | 0 => MZ T 0 (fun _ _ _ _ => False) ⟨fun _ _ _ _ z => z.elim, fun _ _ _ _ _ _ _ _ _ _ _ _ _ z => z.elim⟩ (fun _ z => absurd z (Nat.succ_ne_zero _).symm)
 | n + 1 => MZ T (n + 1) _ (M4 T n) fun m e => by cases e; rfl
theorem Qu (T : Tx K mg) : Ah P w K mg base CX0 8 T.FZ T.ET ["_law_one", "_law_two", "_law_deep"] (GZ T 6) := (M4 T 6).mono (by decide)
theorem C9 : AN ["_law_beach", "_law_places", "_law_throw", "_law_handed", "_law_told_here", "_law_k", "_law_kept", "_law_row"] ["_law_beach", "_law_places", "_law_throw"] (AF LL) := by walk_at "SC"
abbrev trG (g : G) : Tr := .t [.i g.p, .i g.f, .i g.h]
theorem TX {H : Hp} : ∀ {as : List Addr} {gs : List G}, Ab H as gs → BG H (gs.map trG) (as.map V.ref)
 | _, _, .nil => rfl
 | _, _, .cons h t => ⟨_, _, rfl, ⟨_, _, rfl, h, BG.ints H [_, _, _]⟩, TX t⟩
theorem SH {H : Hp} : ∀ {gs : List G} {vs : List V}, BG H (gs.map trG) vs → ∃ as : List Addr, vs = as.map V.ref ∧ Ab H as gs
 | [], _, h => ⟨[], h, .nil⟩
 | g :: gs, _, ⟨_, _, e, ⟨a, us, e2, h1, h2⟩, h3⟩ => by
  obtain ⟨as, rfl, ga⟩ := SH h3
  subst e2
  obtain ⟨_, _, rfl, rfl, _, _, rfl, rfl, _, _, rfl, rfl, rfl⟩ := h2
  exact ⟨a :: as, e, .cons h1 ga⟩
def Off (Z : List Addr) (H H' : Hp) : Prop := ∀ b u, b ∉ Z → H b = some u → H' b = some u
theorem Off.refl {Z : List Addr} {H : Hp} : Off Z H H := fun _ _ _ e => e
theorem Off.same {Z : List Addr} {H H1 H2 : Hp} (o : Off Z H H1) (s : AH H1 H2) : Off Z H H2 := fun b u n e => s.get (o b u n e)
theorem Off.upd {Z : List Addr} {H H1 : Hp} {z : Addr} {u : HO} (o : Off Z H H1) (h : z ∈ Z) : Off Z H (upd H1 z u) := fun b v n e => by
 rw [AG (fun q => n (by rw [q]; exact h))]; exact o b v n e
def hid (Z : List Addr) (H : Hp) : Hp := fun b => if b ∈ Z then none else H b
theorem Ew {Z : List Addr} {H : Hp} {b : Addr} {u : HO} (h : H b = some u) (n : b ∉ Z) : hid Z H b = some u := (if_neg n).trans h
theorem Off.hid {Z : List Addr} {H H' : Hp} (o : Off Z H H') : AH (hid Z H) H' := fun b u e => by
 by_cases n : b ∈ Z
 ·have : TG.hid Z H b = none := if_pos n
  rw [this] at e; cases e
 ·exact o b u n ((if_neg n).symm.trans e)
def NQ (Z : List Addr) (H : Hp) : Prop := ∀ z ∈ Z, ∃ xs, H z = some (.lst xs)
theorem NQ.out {Z : List Addr} {H : Hp} (h : NQ Z H) {b : Addr} (n : H b = none) : b ∉ Z := fun z => by
 obtain ⟨xs, e⟩ := h b z
 rw [n] at e; cases e
theorem NQ.tup {Z : List Addr} {H : Hp} (h : NQ Z H) {b : Addr} {ys : List V} (n : H b = some (.tup ys)) : b ∉ Z := fun z => by
 obtain ⟨xs, e⟩ := h b z
 rw [n] at e; cases e
theorem S4 {Z : List Addr} {H H' : Hp} {P : Addr} {pos : Pos} {qual : Str} (h : LM.Tbl H P pos qual) (lz : NQ Z H) (o : Off Z H H') : LM.Tbl H' P pos qual := by
 rcases h with h | ⟨c, o', u, vs, t, h1, h2, h3⟩
 ·exact .inl (o _ _ (fun z => by obtain ⟨_, e⟩ := lz _ z; rw [e] at h; cases h) h)
 ·exact .inr ⟨c, o', u, vs, t, o _ _ (fun z => by obtain ⟨_, e⟩ := lz _ z; rw [e] at h1; cases h1) h1, o _ _ (fun z => by obtain ⟨_, e⟩ := lz _ z; rw [e] at h2; cases h2) h2, h3⟩
theorem Bn.off {Z : List Addr} {T : Addr} {H0 H H' : Hp} (s : Bn T H0 H) (n : ∀ z ∈ Z, H0 z = none) (o : Off Z H H') : Bn T H0 H' := fun b u nb e => o b u (fun z => by rw [n b z] at e; cases e) (s b u nb e)
mutual
def OM : Tr → Prop
 | .i _ => True
 | .s _ => True
 | .l _ => False
 | .t xs => P9 xs
def P9 : List Tr → Prop
 | [] => True
 | x :: xs => OM x ∧ P9 xs
end
mutual
theorem Enc.hid {Z : List Addr} {H : Hp} (lz : NQ Z H) : ∀ {x : Tr} {v : V}, OM x → Enc H x v → Enc (hid Z H) x v
 | .i _, _, _, h => h
 | .s _, _, _, h => h
 | .l _, _, t, _ => t.elim
 | .t _, _, t, ⟨p, vs, e, h, r⟩ => ⟨p, vs, e, Ew h (lz.tup h), BG.hid lz t r⟩
theorem BG.hid {Z : List Addr} {H : Hp} (lz : NQ Z H) : ∀ {xs : List Tr} {vs : List V}, P9 xs → BG H xs vs → BG (hid Z H) xs vs
 | [], _, _, h => h
 | _ :: _, _, t, ⟨v, r, e, h1, h2⟩ => ⟨v, r, e, Enc.hid lz t.1 h1, BG.hid lz t.2 h2⟩
end
theorem tupOL_map {α : Type} {f : α → Tr} (h : ∀ a, OM (f a)) : ∀ xs : List α, P9 (xs.map f)
 | [] => trivial
 | a :: xs => ⟨h a, tupOL_map h xs⟩
theorem tupO_T (t : Thr) : OM (trT t) := ⟨trivial, trivial, trivial, trivial, trivial⟩
theorem tupO_G (g : G) : OM (trG g) := ⟨trivial, trivial, trivial, trivial⟩
theorem tupO_R (r : Run) : OM (trR r) := ⟨trivial, trivial, tupO_T _, trivial⟩
theorem KI.tupO {sg : List G} {x : Tr} (h : KI sg x) : OM x := by
 rcases h with ⟨t, ok, all, ow, rfl⟩ | ⟨t, n1, f, rfl⟩
 ·exact ⟨trivial, tupO_T t, trivial⟩
 ·exact ⟨trivial, tupOL_map (f := Tr.i) (fun _ => trivial) t, trivial⟩
theorem He.tupO {f : Thr → Thr} {sg hg : List G} {x : Tr} (h : He f sg hg x) : OM x := by
 rcases h with ⟨t, p, q, ok, all, ed, rfl⟩ | ⟨t, n1, f, rfl⟩
 ·exact ⟨trivial, tupO_T _, trivial, trivial, trivial⟩
 ·exact ⟨trivial, tupOL_map (f := Tr.i) (fun _ => trivial) t, trivial⟩
theorem KI.tup {sg : List G} {x : Tr} {H : Hp} {v : V} (h : KI sg x) (e : Enc H x v) : ∃ D xs, v = .ref D ∧ H D = some (.tup xs) := by
 rcases h with ⟨t, ok, all, ow, rfl⟩ | ⟨t, n1, f, rfl⟩ <;> exact let ⟨p, vs, e, h, _⟩ := e; ⟨p, vs, e, h⟩
theorem He.tup {f : Thr → Thr} {sg hg : List G} {x : Tr} {H : Hp} {v : V} (h : He f sg hg x) (e : Enc H x v) : ∃ D xs, v = .ref D ∧ H D = some (.tup xs) := by
 rcases h with ⟨t, p, q, ok, all, ed, rfl⟩ | ⟨t, n1, f, rfl⟩ <;> exact let ⟨p, vs, e, h, _⟩ := e; ⟨p, vs, e, h⟩
theorem asc_same {xs ys gs : List G} (h1 : xs.Perm gs) (a1 : Asc xs) (h2 : ys.Perm gs) (a2 : Asc ys) : xs = ys := A7 a1 a2 (h1.trans h2.symm)
theorem picks_perm {gs : List G} {ps : List Int} (ha : Asc gs) (h : ps.Perm (AU gs)) : (Bw gs ps).Perm gs := by
 have := h.filterMap (B6 gs)
 have e : (AU gs).filterMap (B6 gs) = gs := QE ha
 rw [e] at this
 exact this
inductive AnsK (gs : List G) (fs : List Int) (x : Tr) : Prop where
 | mk (r a b c : Tr) (m : List Tr) (hr : PU gs r) (hm : RI gs (.t m)) (ha : KI gs a) (hb : He id gs gs b) (hc : He MK gs (gs.map Bq) c) (e : x = .l [.l (gs.map trG), r, .l (fs.map Tr.i), .l m, a, b, c])
theorem AnsK.uniq {gs : List G} {fs : List Int} {x y : Tr} (ac : Asc gs) (ne : gs ≠ []) (h : AnsK gs fs x) (h' : AnsK gs fs y) : x = y := by
 obtain ⟨r, a, b, c, m, hr, hm, ha, hb, hc, rfl⟩ := h
 obtain ⟨r', a', b', c', m', hr', hm', ha', hb', hc', rfl⟩ := h'
 rw [ha.uniq ne ha', hb.uniq hb', hc.uniq hc', hr.uniq ac hr']
 have : m = m' := Tr.t.inj (hm.uniq hm')
 rw [this]
theorem AnsK.okd {gs : List G} {fs : List Int} {x : Tr} (h : AnsK gs fs x) (hl : gs.length ≤ 1000 ∧ fs.length ≤ 1000) : Tr.ok 6 x := by
 obtain ⟨r, a, b, c, m, hr, hm, ha, hb, hc, rfl⟩ := h
 obtain ⟨i, t, _, _, e⟩ := hm.at_
 cases e
 have := List.length_filter_le (fun g => decide (t.pas g)) gs
 refine ⟨5, rfl, by simp, ⟨4, rfl, by rw [List.length_map]; exact hl.1, NZ (m := 4) (f := trG) (fun g => ⟨3, rfl, by simp, trivial, trivial, trivial, trivial⟩) gs⟩, hr.okd hl.1 2, ⟨4, rfl, by rw [List.length_map]; exact hl.2, GM 4 fs⟩, ⟨4, rfl, by simp, ⟨3, rfl, by rw [List.length_map, AU, List.length_map]; omega, GM 3 _⟩, Sj 3 t, trivial⟩, ha.okd 3, hb.okd 3, hc.okd 3, trivial⟩
def sp_w_told {K : PySem.W.Frag} {mg : Str → Option Value} (T : Tx K mg) : Sp := fun vs H Q _ => ∃ (b S P : Addr) (ow : List Addr) (gs : List G) (past : List (List G)) (l q : Addr) (ps : List Int) (x y z v : Int), vs = [.ref b, .ref l, .ref q] ∧ Bch T.AT H b S P ow gs past ∧ H l = some (.lst (ps.map V.int)) ∧ H q = some (.tup [.int x, .int y, .int z, .int v]) ∧ ¬ N4 x y z v ∧ ps.Perm (AU gs) ∧ 2 ≤ gs.length ∧ gs.length ≤ 12 ∧ LM.Tbl H DW Hh PK ∧ ∀ D H' t, Bn DW H H' → LM.Tbl H' DW Hh PK → AnsK gs (AU (gs.filter (JL x y z v))) t → Enc H' t (.ref D) → Q (.ref D) H'
theorem ok_w_told (T : Tx K mg) : Ah P w K mg base CX0 11 T.OS T.MT ["_law_beach", "_law_places", "_law_throw"] (sp_w_told T) := by
 refine T.LY.F.ok C9 (fun vs H Q E h => ?_) (fun cdv A outer s H vs Q E hr h => ?_)
 ·obtain ⟨b, S, P, ow, gs, past, l, q, ps, x, y, z0, v0, rfl, hb, hl, hq, nb, hp, g2, g12, tb, k⟩ := h
  rfl
 ·obtain ⟨b, S, P, ow, gs, past, l, q, ps, x, y, z0, v0, rfl, hb, hl, hq, nb, hp, g2, g12, tb, k⟩ := h
  have hu := Ad hr
  refine ⟨_, (AD (pst 3 C9 (Ar (AA (Bh Bb (by rfl) T.Bd A8 (AA (pv 1) AC)) (AA (Bh Bb (by rfl) T.Bd A8 (AA (pv 1) AC)) (AA (Bh Bb (by rfl) T.Bd A8 (AA (pv 1) AC)) AC)))))
   (AD (pst 4 C9 (Ar (AA (Ip (pv 0) T.AW T.Dq.mt (LN T) (hr.mono (by decide)) T.Dq.b .nil AV) (AA (Ip (pv 0) T.AW T.Ey.mt (L3 T) (hr.mono (by decide)) T.Ey.b .nil AV) (AA (Bs (pv 0) T.AW T.DB.mt (KH T) (hr.mono (by decide)) T.DB.b .nil HZ (AA (pv 2) AC)) (AA (Ip (pv 0) T.AW T.Eu.mt (L8 T) (hr.mono (by decide)) T.Eu.b .nil HZ) (AA (Bs (pv 0) T.AW T.Cj.mt (JP T) (hr.mono (by decide)) T.Cj.b .nil HZ (AA (pxi AR (pv 3) AB) AC)) (AA (Bs (pv 0) T.AW T.CH.mt (IV T) (hr.mono (by decide)) T.CH.b .nil HZ (AA (pxi AR (pv 3) AB) AC)) (AA (Bs (pv 0) T.AW T.CL.mt (IG T) (hr.mono (by decide)) T.CL.b .nil HZ (AA (pxi AR (pv 3) AB) AC)) AC)))))))))
   (AD (BF PassesOwn.never rfl (Bm (by rfl) T.B3 (AA AB AC)) (pgn 5 C9)
    (AE (Af (Cd (CN (BO (AJ call_isT (by rfl) T.Ac AY (AA (pxi AR (pv 4) (pv 5)) (AA (AZ (AA (At (v := .ty "list") (by rfl) T.Bd A8 rfl) (AA (At (v := .ty "tuple") (by rfl) T.Ka IL rfl) AC))) AC))))) (By (ptc FB (AJ Av (by rfl) T.Ac AY (AA (pxi AR (pv 4) (pv 5)) (AA (At (v := .ty "list") (by rfl) T.Bd A8 rfl) AC))) (pec FN (pv 5) AB)))).pt (AE (AM (Ar AC)))
      AS)))
   (AD (Af (Cd (ptc FB (AJ AQ (by rfl) T.Ay Ao (AA (pxi AR (pv 4) AB) AC)) AB) (Cd (CN (BO (AJ Av (by rfl) T.Ac AY (AA (pxi AL (pxi AR (pv 4) AB) AB) (AA (At (v := .ty "list") (by rfl) T.Bd A8 rfl) AC))))) (By (ptc (NU (Nat.lt_of_succ_lt hu)) (pxi AL (pxi AR (pv 4) AB) AB) (Ar AC))))).pt (AE (AM (Ar AC)))
    AS)
   (AD (pst 6 C9 (Ar (AA (Bh Bb (by rfl) T.Bd A8 (AA (pxi AR (pv 4) AB) AC)) (AA (Bh Bb (by rfl) T.Bd A8 (AA (pxi AR (pv 4) AB) AC)) (AA (Bh Bb (by rfl) T.Bd A8 (AA (pxi AR (pv 4) AB) AC)) (AA (Ar (AA (Bh Bb (by rfl) T.Bd A8 (AA (pxi AL (pxi AR (pv 4) AB) AB) AC)) (AA (pxi AL (pxi AR (pv 4) AB) AB) AC))) (AA (pxi AR (pv 4) AB) (AA (pxi AR (pv 4) AB) (AA (pxi AR (pv 4) AB) AC)))))))))
   (AD (BB (Be (pxi AR (pv 4) AB) (AZ (AA AB (AA AB (AA AB AC))))))
   (AD (BB (Rr PySem.F.plainAttrs_list PySem.F.slot_list_clear PySem.F.type_list_clear Q0 (pxi AR (pv 4) AB)))
   (AD (BB (Td PySem.F.plainAttrs_list PySem.F.slot_list_insert PySem.F.type_list_insert QC (pxi AR (pv 4) AB) (AA AB (AA AB AC))))
   (AD (BB (Rr PySem.F.plainAttrs_list PySem.F.slot_list_pop PySem.F.type_list_pop UG (pxi AL (pxi AR (pv 4) AB) AB)))
   (AD (BF PassesOwn.never rfl (BV (pv 3)) (pgn 7 C9)
    (AD (Af (CN (BO (pcl T.OQ (QU T) hr AV (AA (pv 7) (AA (pv 1) AC))))) (AE (AM (Ar AC)))
      AS)
     (AD (On AB (RX (pv 7) AB OT))
     (AE (BB (Be (pv 7) AB))))))
   (AE (AM (pv 6))))))))))))), ?_⟩
  have lps : ps.length = gs.length := by have := hp.length_eq; rwa [AU, List.length_map] at this
  have ndp : ps.Nodup := hp.nodup_iff.mpr hb.std.nd
  have sub : ∀ p ∈ ps, p ∈ AU gs := fun p h => hp.mem_iff.mp h
  have ne : gs ≠ [] := fun z => by rw [z, List.length_nil] at g2; omega
  have nbad : ¬ EC ps := fun z => by
   rcases z with z | z | z
   ·rw [z, List.length_nil] at lps; omega
   ·omega
   ·exact z ndp
  have pk := picks_perm hb.std.asc hp
  have ac := hb.std.asc
  walk_at "Q"
  walk_at "RD"
  refine ⟨_, .inl (SqL.of hl), fun l1 H1 n1 s1 e1 => ⟨_, .inl (SqL.of (s1.get hl)), fun l2 H2 n2 s2 e2 => ⟨_, .inl (SqL.of (s2.get (s1.get hl))), fun l3 H3 n3 s3 e3 => ⟨by decide, fun Hd H4 n4 s4 e4 => ?_⟩⟩⟩⟩
  walk_at "NX"
  walk_at "Q"
  walk_at "RD"
  have s04 := s1.trans (s2.trans (s3.trans s4))
  have hb4 := hb.same s04
  obtain ⟨dx, eb⟩ := hb4.at_
  refine ⟨dx, _, eb, rfl, b, S, P, ow, gs, past, rfl, hb4, fun H5 D0 as0 n5 s5 e5 ga5 => ?_⟩
  have hb5 := hb4.same s5
  obtain ⟨dx, eb⟩ := hb5.at_
  refine ⟨dx, _, eb, rfl, b, S, P, ow, gs, past, rfl, hb5, fun D1 H6 as1 rs n6 s6 ra own => ?_⟩
  have e6 := ra.eD
  obtain ⟨ar, er⟩ := Qy ra own (List.Perm.refl _) ac
  have hb6 := hb5.same s6
  obtain ⟨dx, eb⟩ := hb6.at_
  have s06 := s04.trans (s5.trans s6)
  refine ⟨dx, _, eb, rfl, b, S, P, ow, gs, past, q, x, y, z0, v0, rfl, hb6, s06.get hq, fun w => absurd w nb, fun _ D2 H7 n7 s7 e7 => ?_⟩
  have hb7 := hb6.same s7
  have tb7 := DN tb (s06.trans s7)
  obtain ⟨dx, eb⟩ := hb7.at_
  refine ⟨dx, _, eb, rfl, b, S, P, ow, gs, past, rfl, hb7, tb7, fun z => absurd z (by omega), fun _ _ D3 H8 L q3 t sg n8 s8 tb8 mo mf => ?_⟩
  cases asc_same mo.hp mo.ha (List.Perm.refl _) ac
  obtain ⟨am, em⟩ := R3 mo mf
  have hb8 := hb7.sameT s8 tb7
  obtain ⟨dx, eb⟩ := hb8.at_
  have s47 := s5.trans (s6.trans s7)
  have up : ∀ {a : Addr} {xs : List V}, H4 a = some (.lst xs) → H8 a = some (.lst xs) := fun e => s8.get tb7 (s47.get e) (fun _ z => nomatch z)
  have e48 := up e4
  have e18 := up (s4.get (s3.get (s2.get e1)))
  have e28 := up (s4.get (s3.get e2))
  have e38 := up (s4.get e3)
  clear up
  have ne_l1_l2 : l1 ≠ l2 := AI e1 n2
  have ne_l1_l3 : l1 ≠ l3 := AI e1 (s2.free n3)
  have ne_l1_D0 : l1 ≠ D0 := AI e1 ((s2.trans (s3.trans s4)).free n5)
  have ne_l1_D1 : l1 ≠ D1 := AI e1 ((s2.trans (s3.trans (s4.trans s5))).free n6)
  have ne_l1_D2 : l1 ≠ D2 := AI e1 ((s2.trans (s3.trans (s4.trans (s5.trans s6)))).free n7)
  have ne_l1_L : l1 ≠ L := AI e1 ((s2.trans (s3.trans (s4.trans (s5.trans (s6.trans s7))))).free n8)
  have ne_l2_l3 : l2 ≠ l3 := AI e2 n3
  have ne_l2_D0 : l2 ≠ D0 := AI e2 ((s3.trans s4).free n5)
  have ne_l2_D1 : l2 ≠ D1 := AI e2 ((s3.trans (s4.trans s5)).free n6)
  have ne_l2_D2 : l2 ≠ D2 := AI e2 ((s3.trans (s4.trans (s5.trans s6))).free n7)
  have ne_l2_L : l2 ≠ L := AI e2 ((s3.trans (s4.trans (s5.trans (s6.trans s7)))).free n8)
  have ne_l3_D0 : l3 ≠ D0 := AI e3 (s4.free n5)
  have ne_l3_D1 : l3 ≠ D1 := AI e3 ((s4.trans s5).free n6)
  have ne_l3_D2 : l3 ≠ D2 := AI e3 ((s4.trans (s5.trans s6)).free n7)
  have ne_l3_L : l3 ≠ L := AI e3 ((s4.trans (s5.trans (s6.trans s7))).free n8)
  have ne_D0_D1 : D0 ≠ D1 := AI e5 n6
  have ne_D0_D2 : D0 ≠ D2 := AI e5 (s6.free n7)
  have ne_D0_L : D0 ≠ L := AI e5 ((s6.trans s7).free n8)
  have ne_D1_D2 : D1 ≠ D2 := AI e6 n7
  have ne_D1_L : D1 ≠ L := AI e6 (s7.free n8)
  have ne_D2_L : D2 ≠ L := AI e7 n8
  have z_l1 : H l1 = none := n1
  have z_l2 : H l2 = none := s1.free n2
  have z_l3 : H l3 = none := (s1.trans s2).free n3
  have z_D0 : H D0 = none := (s1.trans (s2.trans (s3.trans s4))).free n5
  have z_D1 : H D1 = none := (s1.trans (s2.trans (s3.trans (s4.trans s5)))).free n6
  have z_D2 : H D2 = none := (s1.trans (s2.trans (s3.trans (s4.trans (s5.trans s6))))).free n7
  have z_L : H L = none := (s1.trans (s2.trans (s3.trans (s4.trans (s5.trans (s6.trans s7)))))).free n8
  have nh1 : Hd ≠ l1 := (AI (s3.get (s2.get e1)) n4).symm
  have nh2 : Hd ≠ l2 := (AI (s3.get e2) n4).symm
  have nh3 : Hd ≠ l3 := (AI e3 n4).symm
  have nh4 : Hd ≠ D0 := AI e4 n5
  have nh5 : Hd ≠ D1 := AI e4 (s5.free n6)
  have nh6 : Hd ≠ D2 := AI e4 ((s5.trans s6).free n7)
  have nh7 : Hd ≠ L := AI e4 ((s5.trans (s6.trans s7)).free n8)
  have s07 := s06.trans s7
  have s78 := (Bn.of s07).trans s8
  have e58 := s8.get tb7 (s7.get (s6.get e5)) (fun _ z => nomatch z)
  have e68 := s8.get tb7 (s7.get e6) (fun _ z => nomatch z)
  have e78 := s8.get tb7 e7 (fun _ z => nomatch z)
  have ga8 := s8.gs tb7 ((ga5.same s6).same s7)
  have er8 := Enc.sameT s8 tb7 (er.same s7)
  clear hb4 hb5 hb6 hb7 s04 s06 s47 s07 e1 e2 e3 e4 e5 e6 e7 n1 n2 n3 n4 n5 n6 n7 n8 s1 s2 s3 s4 s5 s6 s7 s8 ga5 er tb7 ra
  have hb9 := hb8
  refine ⟨dx, _, eb, rfl, _, SqL.of e48, _, rfl, b, S, P, ow, gs, past, l1, ps, rfl, hb8, SqL.of e18, by omega, fun z => absurd z nbad, fun _ => sub, fun _ D4 H9 sg4 x4 s9 p9 a9 an4 en4 => ?_⟩
  cases asc_same (p9.trans pk) a9 (List.Perm.refl _) ac
  have hb9 := hb8.same s9
  obtain ⟨dx, eb⟩ := hb9.at_
  refine ⟨dx, _, eb, rfl, _, SqL.of (s9.get e48), _, rfl, b, S, P, ow, gs, past, l2, ps, rfl, hb9, SqL.of (s9.get e28), by omega, fun z => absurd z nbad, fun _ => sub, fun _ z => by omega, fun _ _ D5 H10 sg5 x5 s10 p10 a10 an5 en5 => ?_⟩
  cases asc_same (p10.trans pk) a10 (List.Perm.refl _) ac
  have hb10 := hb9.same s10
  obtain ⟨dx, eb⟩ := hb10.at_
  have s810 := s9.trans s10
  refine ⟨dx, _, eb, rfl, _, SqL.of (s810.get e48), _, rfl, b, S, P, ow, gs, past, l3, ps, rfl, hb10, SqL.of (s810.get e38), by omega, fun z => absurd z nbad, fun _ => sub, fun _ z => by omega, fun _ _ D6 H11 sg6 x6 s11 p11 a11 an6 en6 => ⟨by decide, fun TL H12 n12 s12 e12 => ?_⟩⟩
  cases asc_same (p11.trans pk) a11 (List.Perm.refl _) ac
  walk_at "NX"
  have s8c := s810.trans (s11.trans s12)
  have s8b := s810.trans s11
  have xTL : TL ∉ [l1, l2, l3, D0, D1, D2, L] := fun hz => by
   simp only [List.mem_cons, List.not_mem_nil, or_false] at hz
   rcases hz with e | e | e | e | e | e | e
   ·rw [e, s8b.get e18] at n12; cases n12
   ·rw [e, s8b.get e28] at n12; cases n12
   ·rw [e, s8b.get e38] at n12; cases n12
   ·rw [e, s8b.get e58] at n12; cases n12
   ·rw [e, s8b.get e68] at n12; cases n12
   ·rw [e, s8b.get e78] at n12; cases n12
   ·rw [e, s8b.get mo.eL] at n12; cases n12
  clear s8b
  have la0 := ga8.len
  have ed := s8c.get e48
  have f1 := s8c.get e18
  have f2 := s8c.get e28
  have f3 := s8c.get e38
  have h0 := s8c.get e58
  have h1 := s8c.get e68
  have h2 := s8c.get e78
  have gaC := ga8.same s8c
  have erC := Enc.same s8c er8
  have moC := mo.same s8c
  have tbC := DN tb8 s8c
  have en4C := Enc.same ((s10.trans s11).trans s12) en4
  have en5C := Enc.same (s11.trans s12) en5
  have en6C := Enc.same s12 en6
  have sC := s78.trans (Bn.of s8c)
  clear hb8 hb9 hb10 s9 s10 s11 s12 s810 s8c e48 e18 e28 e38 e58 e68 e78 ga8 er8 mo tb8 s78 en4 en5 en6 em p9 p10 p11 a9 a10 a11 n12 eb
  obtain ⟨_, w4, z4, t4⟩ := an4.tup en4C
  cases z4
  obtain ⟨_, w5, z5, t5⟩ := an5.tup en5C
  cases z5
  obtain ⟨_, w6, z6, t6⟩ := an6.tup en6C
  cases z6
  have lz : NQ [l1, l2, l3, D0, D1, D2, L] H12 := fun z hz => by
   simp only [List.mem_cons, List.not_mem_nil, or_false] at hz
   rcases hz with rfl | rfl | rfl | rfl | rfl | rfl | rfl
   ·exact ⟨_, f1⟩
   ·exact ⟨_, f2⟩
   ·exact ⟨_, f3⟩
   ·exact ⟨_, h0⟩
   ·exact ⟨_, h1⟩
   ·exact ⟨_, h2⟩
   ·exact ⟨_, moC.eL⟩
  have zz : ∀ z ∈ [l1, l2, l3, D0, D1, D2, L], H z = none := fun z hz => by
   simp only [List.mem_cons, List.not_mem_nil, or_false] at hz
   rcases hz with rfl | rfl | rfl | rfl | rfl | rfl | rfl <;> assumption
  walk_at "Q"
  walk_at "RD"
  refine ⟨7, rfl, by decide, by decide, A0 (n := (7 : Int).toNat) (fun _ σ H' => ∃ o, σ = [some (.ref b), some (.ref l), some (.ref q), some (.ref Hd), some (.ref TL), o, none, none] ∧ AH H12 H') ⟨_, rfl, AH.refl _⟩ ?_ ?_⟩
  ·rintro i σ H9 hi ⟨o, rfl, s9⟩
   have Hf : ∀ H', AH H12 H' → ∃ (p : Addr) (ty : String), atI [V.ref D0, V.ref D1, V.ref D2, V.ref D3, V.ref D4, V.ref D5, V.ref D6] (0 + (i : Int)) = some (.ref p) ∧ CJ K H' (.ref p) (.type ty) ∧ ((ty = "list" ∧ i < 3) ∨ (ty = "tuple" ∧ ¬ i < 3)) := fun H' s => by
    have hi7 : i < 7 := hi
    rcases (show i = 0 ∨ i = 1 ∨ i = 2 ∨ i = 3 ∨ i = 4 ∨ i = 5 ∨ i = 6 by omega) with rfl | rfl | rfl | rfl | rfl | rfl | rfl
    ·exact ⟨D0, "list", rfl, CJ.lst (s.get h0), .inl ⟨rfl, by decide⟩⟩
    ·exact ⟨D1, "list", rfl, CJ.lst (s.get h1), .inl ⟨rfl, by decide⟩⟩
    ·exact ⟨D2, "list", rfl, CJ.lst (s.get h2), .inl ⟨rfl, by decide⟩⟩
    ·exact ⟨D3, "tuple", rfl, CJ.tup (s.get moC.eD), .inr ⟨rfl, by decide⟩⟩
    ·exact ⟨_, "tuple", rfl, CJ.tup (s.get t4), .inr ⟨rfl, by decide⟩⟩
    ·exact ⟨_, "tuple", rfl, CJ.tup (s.get t5), .inr ⟨rfl, by decide⟩⟩
    ·exact ⟨_, "tuple", rfl, CJ.tup (s.get t6), .inr ⟨rfl, by decide⟩⟩
   walk_at "RD"
   delta rIsT
   obtain ⟨p0, ty, ap, _, _⟩ := Hf H9 s9
   refine ⟨_, SqL.of (s9.get e12), _, ap, by decide, fun p1 H10 n1 s10 f1 => ?_⟩
   obtain ⟨p, ty, ap', ht, hty⟩ := Hf H10 (s9.trans s10)
   rw [ap] at ap'
   cases ap'
   refine ⟨.type ty, ["list", "tuple"], f1, ht, true, by rcases hty with ⟨rfl, _⟩ | ⟨rfl, _⟩ <;> rfl, ?_⟩
   rw [if_neg (by decide)]
   refine ⟨_, SqL.of (s10.get (s9.get e12)), _, ap, .type ty, ht, ?_⟩
   rcases hty with ⟨rfl, h3⟩ | ⟨rfl, h3⟩
   ·refine ⟨true, rfl, ?_⟩
    rw [decide_eq_true (show (0 : Int) + (i : Int) < 3 by omega), if_neg (by decide)]
    exact ⟨⟨_, rfl⟩, s9.trans s10⟩
   ·refine ⟨false, rfl, ?_⟩
    rw [decide_eq_false (show ¬ (0 : Int) + (i : Int) < 3 by omega), if_neg (by decide)]
    exact ⟨⟨_, rfl⟩, s9.trans s10⟩
  rintro σ H9 ⟨o, rfl, s9⟩
  walk_at "NX"
  walk_at "Q"
  walk_at "RD"
  have cnt := moC.two hb.std.ok
  have cne : ((gs.filter fun g => decide (t.pas g)).map G.p).map V.int ≠ [] := fun z => by
   have := congrArg List.length z
   rw [List.length_map, List.length_map, List.length_nil] at this
   omega
  refine ⟨_, SqL.of (s9.get e12), _, rfl, D3, rfl, _, .inr (SqT.of (s9.get moC.eD)), ?_⟩
  rw [if_neg (by simp)]
  refine ⟨_, SqL.of (s9.get e12), _, rfl, D3, rfl, _, SqT.of (s9.get moC.eD), _, rfl, .type "list", CJ.lst (s9.get moC.eL), true, rfl, ?_⟩
  rw [if_neg (by decide)]
  refine ⟨_, SqL.of (s9.get e12), _, rfl, D3, rfl, _, SqT.of (s9.get moC.eD), _, rfl, ?_⟩
  refine ⟨by decide, fun p1 H10 n1 s10 g1 => ⟨L, rfl, _, SqL.of (s10.get (s9.get moC.eL)), SqL.of g1, ?_⟩⟩
  rw [if_neg (fun z => cne (of_decide_eq_true z))]
  walk_at "NX"
  have sA := s9.trans s10
  clear s9 s10 n1 g1
  walk_at "Q"
  walk_at "RD"
  refine ⟨_, SqL.of (sA.get e12), _, rfl, D0, rfl, _, .inl (SqL.of (sA.get h0)), fun K0 A1 nK0 a1 eK0 => ?_⟩
  have b1 := sA.trans a1
  refine ⟨_, SqL.of (b1.get e12), _, rfl, D1, rfl, _, .inl (SqL.of (b1.get h1)), fun K1 A2 nK1 a2 eK1 => ?_⟩
  have b2 := b1.trans a2
  refine ⟨_, SqL.of (b2.get e12), _, rfl, D2, rfl, _, .inl (SqL.of (b2.get h2)), fun K2 A3 nK2 a3 eK2 => ?_⟩
  have b3 := b2.trans a3
  refine ⟨_, SqL.of (b3.get e12), _, rfl, D3, rfl, _, SqT.of (b3.get moC.eD), _, rfl, L, rfl, _, .inl (SqL.of (b3.get moC.eL)), fun KM A4 nKM a4 eKM => ?_⟩
  have b4 := b3.trans a4
  refine ⟨_, SqL.of (b4.get e12), _, rfl, D3, rfl, _, SqT.of (b4.get moC.eD), _, rfl, by decide, fun K3 A5 nK3 a5 eK3 => ?_⟩
  have b5 := b4.trans a5
  refine ⟨_, SqL.of (b5.get e12), _, rfl, _, SqL.of (b5.get e12), _, rfl, _, SqL.of (b5.get e12), _, rfl, by decide, fun KK A6 nKK a6 eKK => ?_⟩
  walk_at "NX"
  have b6 := b5.trans a6
  have out : ∀ {p : Addr}, H12 p = none → p ∉ [l1, l2, l3, D0, D1, D2, L] := fun n => lz.out n
  have xK0 := out (sA.free nK0)
  have xK1 := out (b1.free nK1)
  have xK2 := out (b2.free nK2)
  have xKM := out (b3.free nKM)
  have xK3 := out (b4.free nK3)
  have xKK := out (b5.free nKK)
  have lz6 : NQ [l1, l2, l3, D0, D1, D2, L] A6 := fun z hz => let ⟨xs, e⟩ := lz z hz; ⟨xs, b6.get e⟩
  obtain ⟨_, vr, zr, fr, el⟩ := erC
  cases zr
  rw [h1] at fr
  cases fr
  have en : Enc (hid [l1, l2, l3, D0, D1, D2, L] A6) (.l [.l (gs.map trG), .l (rs.map trR), .l ((AU (gs.filter (JL x y z0 v0))).map Tr.i), .l [.l ((AU (gs.filter fun g => decide (t.pas g))).map Tr.i), trT t], x4, x5, x6]) (.ref KK) :=
   ⟨KK, _, rfl, Ew eKK xKK, _, _, rfl, ⟨K0, _, rfl, Ew ((a2.trans (a3.trans (a4.trans (a5.trans a6)))).get eK0) xK0, BG.hid lz6 (tupOL_map tupO_G gs) (TX (gaC.same b6))⟩,
    _, _, rfl, ⟨K1, _, rfl, Ew ((a3.trans (a4.trans (a5.trans a6))).get eK1) xK1, BG.hid lz6 (tupOL_map tupO_R rs) (BG.same b6 el)⟩,
    _, _, rfl, ⟨K2, _, rfl, Ew ((a4.trans (a5.trans a6)).get eK2) xK2, BG.ints _ _⟩,
    _, _, rfl, ⟨K3, _, rfl, Ew (a6.get eK3) xK3, _, _, rfl, ⟨KM, _, rfl, Ew ((a5.trans a6).get eKM) xKM, BG.ints _ _⟩, _, _, rfl, Enc.hid lz6 (tupO_T t) (Qi (b6.get moC.eq)), rfl⟩,
    _, _, rfl, Enc.hid lz6 an4.tupO (Enc.same b6 en4C), _, _, rfl, Enc.hid lz6 an5.tupO (Enc.same b6 en5C), _, _, rfl, Enc.hid lz6 an6.tupO (Enc.same b6 en6C), rfl⟩
  have an : AnsK gs (AU (gs.filter (JL x y z0 v0))) (.l [.l (gs.map trG), .l (rs.map trR), .l ((AU (gs.filter (JL x y z0 v0))).map Tr.i), .l [.l ((AU (gs.filter fun g => decide (t.pas g))).map Tr.i), trT t], x4, x5, x6]) := ⟨_, _, _, _, _, ar, am, an4, an5, an6, rfl⟩
  have s6 := sC.trans (Bn.of b6)
  have tb6 := DN tbC b6
  have eTL := b6.get e12
  have eHd := b6.get ed
  have fin : ∀ Hz, Off [l1, l2, l3, D0, D1, D2, L] A6 Hz → Q (.ref KK) Hz := fun Hz o => k KK Hz _ (s6.off zz o) (S4 tb6 lz6 o) an (Enc.same o.hid en)
  have i1 := b6.get f1
  have i2 := b6.get f2
  have i3 := b6.get f3
  have i4 := b6.get h0
  have i5 := b6.get h1
  have i6 := b6.get h2
  have i7 := b6.get moC.eL
  have eD3 := b6.get moC.eD
  have xD3 := lz6.tup eD3
  have xHd : Hd ∉ [l1, l2, l3, D0, D1, D2, L] := fun hz => by
   simp only [List.mem_cons, List.not_mem_nil, or_false] at hz
   rcases hz with e | e | e | e | e | e | e
   ·exact nh1 e
   ·exact nh2 e
   ·exact nh3 e
   ·exact nh4 e
   ·exact nh5 e
   ·exact nh6 e
   ·exact nh7 e
  have xl : l ∉ [l1, l2, l3, D0, D1, D2, L] := fun h => by rw [zz l h] at hl; cases hl
  have el6 := s6.get tb hl (fun _ z => nomatch z)
  clear h0 h1 h2 f1 f2 f3 moC gaC el en4C en5C en6C eK0 eK1 eK2 eKM eK3 nK0 nK1 nK2 nKM nK3 nKK a1 a2 a3 a4 a5 a6 b1 b2 b3 b4 b5 b6 en an k e12 ed lz zz sA xK0 xK1 xK2 xKM xK3 xKK out
  walk_at "Q"
  walk_at "RD"
  refine ⟨_, SqL.of eTL, _, rfl, D0, rfl, ⟨_, i4⟩, by decide, fun p1 B1 np1 r1 g1 => ⟨_, r1.get i4, by rw [List.length_map, PySem.sizeLine_eq]; omega, ?_⟩⟩
  walk_at "NX"
  have o1 : Off [l1, l2, l3, D0, D1, D2, L] A6 (upd B1 D0 (.lst (as0.map V.ref ++ [.ref p1]))) := (Off.refl.same r1).upd (by simp)
  have i5' : upd B1 D0 (.lst (as0.map V.ref ++ [.ref p1])) D1 = _ := (AG ne_D0_D1.symm).trans (r1.get i5)
  have i6' : upd B1 D0 (.lst (as0.map V.ref ++ [.ref p1])) D2 = _ := (AG ne_D0_D2.symm).trans (r1.get i6)
  have i7' : upd B1 D0 (.lst (as0.map V.ref ++ [.ref p1])) L = _ := (AG ne_D0_L.symm).trans (r1.get i7)
  have i1' : upd B1 D0 (.lst (as0.map V.ref ++ [.ref p1])) l1 = _ := (AG ne_l1_D0).trans (r1.get i1)
  have i2' : upd B1 D0 (.lst (as0.map V.ref ++ [.ref p1])) l2 = _ := (AG ne_l2_D0).trans (r1.get i2)
  have i3' : upd B1 D0 (.lst (as0.map V.ref ++ [.ref p1])) l3 = _ := (AG ne_l3_D0).trans (r1.get i3)
  generalize upd B1 D0 (.lst (as0.map V.ref ++ [.ref p1])) = C1 at *
  clear i1 i2 i3 i4 i5 i6 i7 r1 g1
  walk_at "Q"
  delta Ug RB
  refine ⟨_, SqL.of (o1 _ _ xTL eTL), _, rfl, RP i5', D1, rfl, ⟨_, i5'⟩, ?_⟩
  walk_at "NX"
  have o2 : Off [l1, l2, l3, D0, D1, D2, L] A6 (upd C1 D1 (.lst [])) := o1.upd (by simp)
  have i6 : upd C1 D1 (.lst []) D2 = _ := (AG ne_D1_D2.symm).trans i6'
  have i7 : upd C1 D1 (.lst []) L = _ := (AG ne_D1_L.symm).trans i7'
  have i1 : upd C1 D1 (.lst []) l1 = _ := (AG ne_l1_D1).trans i1'
  have i2 : upd C1 D1 (.lst []) l2 = _ := (AG ne_l2_D1).trans i2'
  have i3 : upd C1 D1 (.lst []) l3 = _ := (AG ne_l3_D1).trans i3'
  generalize upd C1 D1 (.lst []) = C2 at *
  clear i1' i2' i3' i5' i6' i7' o1
  walk_at "Q"
  delta tBM Px
  have lfl : ((AU (gs.filter (JL x y z0 v0))).map V.int).length ≤ 12 := by
   have := List.length_filter_le (JL x y z0 v0) gs
   rw [List.length_map, AU, List.length_map]; omega
  refine ⟨_, SqL.of (o2 _ _ xTL eTL), _, rfl, RP i6, D2, rfl, _, i6, by omega, by omega, ?_⟩
  walk_at "NX"
  generalize HO.lst (List.take 0 ((AU (gs.filter (JL x y z0 v0))).map V.int) ++ V.int 1 :: List.drop 0 ((AU (gs.filter (JL x y z0 v0))).map V.int)) = oo
  have o3 : Off [l1, l2, l3, D0, D1, D2, L] A6 (upd C2 D2 oo) := o2.upd (by simp)
  have i7' : upd C2 D2 oo L = _ := (AG ne_D2_L.symm).trans i7
  have i1' : upd C2 D2 oo l1 = _ := (AG ne_l1_D2).trans i1
  have i2' : upd C2 D2 oo l2 = _ := (AG ne_l2_D2).trans i2
  have i3' : upd C2 D2 oo l3 = _ := (AG ne_l3_D2).trans i3
  generalize upd C2 D2 oo = C3 at *
  clear i1 i2 i3 i6 i7 o2
  walk_at "Q"
  delta Ug rPop
  have lz7 : (((gs.filter fun g => decide (t.pas g)).map G.p).map V.int).length = (gs.filter fun g => decide (t.pas g)).length := by rw [List.length_map, List.length_map]
  refine ⟨_, SqL.of (o3 _ _ xTL eTL), _, rfl, D3, rfl, _, SqT.of (o3 _ _ xD3 eD3), _, rfl, RP i7', L, rfl, _, i7', ⟨_, List.getElem?_eq_getElem (by omega)⟩, ?_⟩
  walk_at "NX"
  generalize HO.lst ((((gs.filter fun g => decide (t.pas g)).map G.p).map V.int).dropLast) = oo2
  have o4 : Off [l1, l2, l3, D0, D1, D2, L] A6 (upd C3 L oo2) := o3.upd (by simp)
  have i1 : upd C3 L oo2 l1 = _ := (AG ne_l1_L).trans i1'
  have i2 : upd C3 L oo2 l2 = _ := (AG ne_l2_L).trans i2'
  have i3 : upd C3 L oo2 l3 = _ := (AG ne_l3_L).trans i3'
  generalize upd C3 L oo2 = C4 at *
  clear i1' i2' i3' i7' o3
  walk_at "Q"
  refine ⟨_, rfl, Hd, rfl, ⟨_, SqL.of (o4 _ _ xHd eHd)⟩, ER (xs := [V.ref l1, V.ref l2, V.ref l3]) (fun i σ H' => ∃ o7, σ = [some (.ref b), some (.ref l), some (.ref q), some (.ref Hd), some (.ref TL), o, some (.ref KK), o7] ∧ Off [l1, l2, l3, D0, D1, D2, L] A6 H' ∧ (i ≤ 0 → H' l1 = some (.lst (ps.map V.int))) ∧ (i ≤ 1 → H' l2 = some (.lst (ps.map V.int))) ∧ (i ≤ 2 → H' l3 = some (.lst (ps.map V.int)))) ⟨none, rfl, o4, fun _ => i1, fun _ => i2, fun _ => i3⟩ (fun _ _ _ _ ⟨_, _, z, _⟩ => SqL.of (z _ _ xHd eHd)) ?_ ?_⟩
  ·rintro i v' σ H9 hx ⟨o7, rfl, o9, w1, w2, w3⟩
   obtain ⟨z, rfl, hz, ez, rest⟩ : ∃ z, v' = .ref z ∧ z ∈ [l1, l2, l3, D0, D1, D2, L] ∧ H9 z = some (.lst (ps.map V.int)) ∧ ∀ Hn : Hp, (∀ y, y ≠ z → Hn y = H9 y) → ((i + 1 ≤ 0 → Hn l1 = some (.lst (ps.map V.int))) ∧ (i + 1 ≤ 1 → Hn l2 = some (.lst (ps.map V.int))) ∧ (i + 1 ≤ 2 → Hn l3 = some (.lst (ps.map V.int)))) := by
    match i, hx with
    | 0, hx =>
     cases hx
     exact ⟨l1, rfl, by simp, w1 (by omega), fun Hn h => ⟨fun z => by omega, fun _ => (h _ ne_l1_l2.symm).trans (w2 (by omega)), fun _ => (h _ ne_l1_l3.symm).trans (w3 (by omega))⟩⟩
    | 1, hx =>
     cases hx
     exact ⟨l2, rfl, by simp, w2 (by omega), fun Hn h => ⟨fun z => by omega, fun z => by omega, fun _ => (h _ ne_l2_l3.symm).trans (w3 (by omega))⟩⟩
    | 2, hx =>
     cases hx
     exact ⟨l3, rfl, by simp, w3 (by omega), fun Hn h => ⟨fun z => by omega, fun z => by omega, fun z => by omega⟩⟩
    | n + 3, hx => cases hx
   walk_at "RD"
   have lm : (ps.map V.int).length = ps.length := List.length_map ..
   refine ⟨z, l, ps, rfl, ez, SqL.of (o9 _ _ xl el6), by omega, true, rfl, ?_⟩
   rw [if_neg (by decide)]
   refine ⟨_, ez, 0, ?_, ⟨_, AO⟩, _, AO, by rw [List.length_set, lm, PySem.sizeLine_eq]; omega, ⟨_, rfl⟩, (o9.upd hz).upd hz, rest _ fun y hy => (AG hy).trans (AG hy)⟩
   unfold ixN
   rw [if_pos (by omega), if_pos (by omega)]; simp
  rintro σ H9 ⟨o7, rfl, o9, _⟩
  walk_at "NX"
  walk_at "RD"
  exact fin H9 o9
theorem sc_law : AN ["_law_script", "_law_row", "_law_beach", "_law_place", "_law_foot", "_law_head", "_law_places", "_law_throw", "_law_first", "_law_second", "_law_many"] ["_law_script"] (AF Pj) := by walk_at "SC"
def sp_law (K : PySem.W.Frag) : Sp := fun vs H Q _ => ∃ (a : Addr) (ns : List Int), vs = [.ref a] ∧ SqL K H a (ns.map V.int) ∧ ns.length ≤ 63 ∧ LM.Tbl H DW Hh PK ∧ ∀ H', Q (.bl true) H'
theorem ok_law (T : Tx K mg) : Ah P w K mg base CX0 12 T.TQ T.Ra ["_law_script"] (sp_law K) := by
 refine T.d_law.F.ok sc_law (fun vs H Q E h => ?_) (fun cdv A outer s H vs Q E hr h => ?_)
 ·obtain ⟨a, ns, rfl, hS, hl, tb, k⟩ := h
  rfl
 ·obtain ⟨a, ns, rfl, hS, hl, tb, k⟩ := h
  have hu := Ad hr
  refine ⟨_, (AD (pst 1 sc_law (pcl T.MX (PL T) hr AV (AA (pv 0) (AA AB (AA (AK Al AB (AK Aj (pcl T.JT (Ik T) hr AV (AA (pv 0) (AA AB AC))) AB)) AC)))))
   (AD (pst 2 sc_law (Rp T.Kt (L4 T) (hr.mono (by decide)) (by rfl) T.SU T.Ie.b .nil AV))
   (AD (BF PassesOwn.never rfl (BV (pv 1)) (NL (n := 3) rfl (B7 (pgn 3 sc_law) (B7 (pgn 4 sc_law) (B7 (pgn 5 sc_law) KZ))))
    (AE (BB (Bs (pv 2) T.AW T.GK.mt (NR T) (hr.mono (by decide)) T.GK.b .nil HZ (AA (pv 3) (AA (pv 4) (AA (pv 5) AC)))))))
   (AD (HV (i := 6) rfl sc_law.nd rfl (Or.inl rfl) (⟨rfl, by decide +kernel, by decide +kernel, by decide +kernel, rfl, by decide +kernel, by with_unfolding_all rfl, by rfl, by rfl, by rfl⟩ : Az _ _ "_law_gate" [] []) (BV (pv 1)) (fun _ _ _ _  => (pxi (KU (K := K) rfl) (pv 0) AB)) (fun _ _ _ _ => GP))
   (AD (pst 7 sc_law (AZ (AA (pxi AL (pxi AR (pv 1) AB) AB) (AA AB (AA AB (AA AB AC))))))
   (AD (pst 8 sc_law (pcl T.LY (ok_w_told T) hr AV (AA (pv 2) (AA (pv 6) (AA (pv 7) AC)))))
   (AD (pst 9 sc_law (pcl T.LY (ok_w_told T) hr AV (AA (pv 2) (AA (pv 6) (AA (pv 7) AC)))))
   (AD (Af (Cd (ptc (NU (Nat.lt_of_succ_lt hu)) (pv 8) (Ar AC)) (Cd (ptc (NU (Nat.lt_of_succ_lt hu)) (pv 9) (Ar AC)) (By (CN (BO (pcl T.Oa (QM T) hr AV (AA (pxi AR (pv 8) AB) (AA (AJ A9 (by rfl) T.CY Bx (AA (pv 1) AC)) AC)))))))).pt (AE (AM DT))
    AS)
   (AD (pst 10 sc_law (Ip (pv 2) T.AW T.D9.mt (Kj T) (hr.mono (by decide)) T.D9.b .nil AV))
   (AE (AM (Jd (pcl T.Lf (Qu T) hr AV (AA (pv 8) (AA (pv 9) (AA AB AC)))) (Jd (pcl T.GY (HW T) hr AV (AA (pv 10) AC)) (Na (pec B4 (pv 10) (AJ AQ (by rfl) T.Ay Ao (AA (pv 1) AC))))))))))))))))), ?_⟩
  walk_at "Q"
  delta GR Lg
  walk_at "AUTO"
  intro D1 H1 as gs nD s1 e1 ga lg ok nd
  have tb1 := DN tb s1
  have g2 : 2 ≤ gs.length := by omega
  have g12 : gs.length ≤ 12 := by omega
  walk_at "NX"
  clear lg tb
  have la := ga.len
  walk_at "Q"
  delta FW
  refine Q3 fun b S0 P0 H3 nb nS nP s3 hb => ?_
  walk_at "NX"
  have e3 := s3.get e1
  have ga3 := ga.same s3
  have tb3 := DN tb1 s3
  have D1o : D1 ∉ [S0, P0] := fun hc => by
   simp at hc
   rcases hc with z | z
   ·rw [z, nS] at e1; cases e1
   ·rw [z, nP] at e1; cases e1
  walk_at "Q"
  refine ⟨_, rfl, D1, rfl, ⟨_, SqL.of e3⟩, ER (xs := as.map V.ref) (fun i σ H' => ∃ (o4 o5 o6 : Option V) (S P : Addr) (ow : List Addr) (G0 : List G) (past : List (List G)), σ = [some (.ref a), some (.ref D1), some (.ref b), o4, o5, o6, none, none, none, none, none] ∧ Kept [S0, P0] H3 H' ow ∧ Bch T.AT H' b S P ow G0 past ∧ G0.Perm (gs.take i) ∧ past.length = i) ⟨none, none, none, S0, P0, _, [], [], rfl, Kept.refl, hb, List.Perm.refl _, rfl⟩ (fun _ _ _ _ ⟨_, _, _, _, _, _, _, _, _, kt, _⟩ => SqL.of (kt.lst _ _ D1o e3)) ?_ ?_⟩
  ·rintro i v' σ H4 hx ⟨o4, o5, o6, S, P, ow, G0, past, rfl, kt, hb4, pm, hpl⟩
   have hi : i < gs.length := by
    have := (List.getElem?_eq_some_iff.mp hx).1
    rw [List.length_map] at this
    omega
   obtain ⟨ai, hai, ti'⟩ := ga3.get (List.getElem?_eq_getElem hi)
   have ex : v' = V.ref ai := by
    rw [List.getElem?_map, hai] at hx
    exact (Option.some.inj hx).symm
   subst ex
   have ti := kt.tup _ _ ti'
   obtain ⟨fp1, fp2⟩ := RZ pm hi nd (by omega) ok (past := past) (by omega)
   generalize gs[i] = g at *
   obtain ⟨dx, eb⟩ := hb4.at_
   delta JC EQ JV
   refine ⟨_, SqT.of ti, rfl, _, _, rfl, _, _, rfl, _, _, rfl, rfl, dx, _, eb, rfl, ?_⟩
   refine ⟨b, S, P, ow, G0, past, g.p, g.f, g.h, rfl, hb4, fun e he => (by rw [fp1] at he; cases he), fun _ H7 S' ow' D kp hb7 o7 eD => ?_⟩
   exact ⟨⟨_, rfl⟩, ⟨_, rfl⟩, ⟨_, rfl⟩, S', P, ow', kt.trans (Kept.deed hb4 kp hb7 o7), _, _, hb7, fp2, by rw [List.length_append, hpl]; rfl⟩
  rintro σ H4 ⟨o4, o5, o6, S, P, ow, G0, past, rfl, kt, hb4, pm, hpl⟩
  rw [List.length_map, la, List.take_length] at pm
  rw [List.length_map, la] at hpl
  have e4 := kt.lst _ _ D1o e3
  have ga4 := kt.gsAt ga3
  have tb4 := R7 tb3 kt
  walk_at "NX"
  clear D1o hb kt ga3 tb3 e3 ga e1 s3 s1 nD nb nS nP hS tb1
  walk_at "Q"
  delta IU
  refine ⟨⟨_, SqL.of e4⟩, fun D5 n5 => ?_⟩
  refine FJ (fun _ => true) (fun g => V.int g.p) (SqL.of e4) ga4 n5 (by omega) (fun v g H R hg s1 ev hR => ?_) (fun v g H R hg s1 ev hR => ?_) fun H5 s5 e5 => ?_
  ·exact hR
  ·delta Option.join_some
   exact ⟨_, SqT.of ev, _, rfl, hR⟩
  rw [OG, show (gs.map fun g => V.int g.p) = (AU gs).map V.int from by rw [List.map_map]; rfl] at e5
  walk_at "NX"
  have e45 := s5.get e4
  have ga5 := ga4.same s5
  have h0 : 0 < gs.length := by omega
  obtain ⟨a0, ha0, t0⟩ := ga5.get (List.getElem?_eq_getElem h0)
  have og := ok _ (List.getElem_mem h0)
  generalize gs[0] = g0 at *
  walk_at "Q"
  walk_at "RD"
  refine ⟨_, SqL.of e45, _, Bo (i := 0) ha0, a0, rfl, _, SqT.of t0, _, rfl, by decide, fun q H6 n6 s6 e6 => ?_⟩
  walk_at "NX"
  have s46 := s5.trans s6
  have hb6 := hb4.same s46
  have tb6 := DN tb4 s46
  have e56 := s6.get e5
  have e46 := s6.get e45
  have ga6 := ga5.same s6
  have lG := pm.length_eq
  have f1 := og.f0
  have f2 := og.fh
  have f3 := og.h1
  have nbt : ¬ N4 g0.f 1 0 1 := Pq (by decide) (by decide) (by omega) (by decide) (by decide) (by decide)
  have pp : (AU gs).Perm (AU G0) := (pm.map G.p).symm
  have ac := hb6.std.asc
  have ne : G0 ≠ [] := fun z => by rw [z, List.length_nil] at lG; omega
  clear hb4 tb4 e4 ga4 n5 s5 e5 e45 ga5 ha0 t0 n6 s6 s46
  walk_at "Q"
  walk_at "RD"
  refine ⟨b, S, P, ow, G0, past, D5, q, AU gs, g0.f, 1, 0, 1, rfl, hb6, e56, e6, nbt, pp, by omega, by omega, tb6, fun A1 H7 t1 s7 tb7 k1 n1 => ?_⟩
  walk_at "NX"
  have hb7 := hb6.sameT s7 tb6
  have e57 := s7.get tb6 e56 (fun _ z => nomatch z)
  have e67 := s7.get tb6 e6 (fun _ z => nomatch z)
  have e47 := s7.get tb6 e46 (fun _ z => nomatch z)
  have ga7 := s7.gs tb6 ga6
  clear hb6 tb6 e56 e6 e46 ga6 s7
  walk_at "Q"
  walk_at "RD"
  refine ⟨b, S, P, ow, G0, past, D5, q, AU gs, g0.f, 1, 0, 1, rfl, hb7, e57, e67, nbt, pp, by omega, by omega, tb7, fun A2 H8 t2 s8 tb8 k2 n2 => ?_⟩
  walk_at "NX"
  cases k2.uniq ac ne k1
  have hb8 := hb7.sameT s8 tb7
  have e48 := s8.get tb7 e47 (fun _ z => nomatch z)
  have ga8 := s8.gs tb7 ga7
  have n18 := Enc.sameT s8 tb7 n1
  clear hb7 tb7 e57 e67 e47 ga7 s8 n1
  have okd : Tr.ok 6 t1 := k1.okd ⟨by omega, by have := List.length_filter_le (JL g0.f 1 0 1) G0; rw [AU, List.length_map]; omega⟩
  obtain ⟨kr, ka, kb, kc, km, hr, hm, hka, hkb, hkc, rfl⟩ := k1
  have w1 := n18
  have w2 := n2
  obtain ⟨_, v1, y1, q1, v0, vr, rfl, x0, xr⟩ := w1
  cases y1
  obtain ⟨_, v2, y2, q2, v00, vr2, rfl, _, _⟩ := w2
  cases y2
  obtain ⟨D0, vs0, rfl, eD0, xl⟩ := x0
  obtain ⟨as0, rfl, ga0⟩ := SH xl
  walk_at "Q"
  walk_at "RD"
  refine ⟨by decide, fun p1 H9 m9 s9 g9 => ⟨_, SqL.of (s9.get q1), SqL.of g9, ?_⟩⟩
  rw [if_neg (fun z => nomatch of_decide_eq_true z)]
  refine ⟨by decide, fun p2 H10 m10 s10 g10 => ⟨_, SqL.of (s10.get (s9.get q2)), SqL.of g10, ?_⟩⟩
  rw [if_neg (fun z => nomatch of_decide_eq_true z)]
  have s810 := s9.trans s10
  refine ⟨_, SqL.of (s810.get q1), _, Db (j := 0) rfl, as, SqL.of (s810.get e48), gs, ga8.same s810, nd, by omega, fun S1 H11 as1 sg n11 s11 e11 ga11 hp11 ac11 => ?_⟩
  cases A7 ac11 ac (hp11.trans pm.symm)
  have s811 := s810.trans s11
  refine ⟨D0, S1, as0, as1, G0, rfl, s811.get eD0, SqL.of e11, ga0.same s811, ga11, by omega, true, rfl, ?_⟩
  rw [if_neg (by decide)]
  walk_at "NX"
  have hb11 := hb8.same s811
  obtain ⟨dx, eb⟩ := hb11.at_
  walk_at "Q"
  walk_at "RD"
  refine ⟨dx, _, eb, rfl, b, S, P, ow, G0, past, rfl, hb11, ?_⟩
  walk_at "NX"
  walk_at "RD"
  refine ⟨_, .ref A1, .ref A2, rfl, Enc.same s811 n18, Enc.same s811 n2, okd, by decide, fun H12 s12 => ⟨true, rfl, ?_⟩⟩
  rw [if_pos rfl]
  refine ⟨_, rfl, true, rfl, ?_⟩
  rw [if_pos rfl]
  refine ⟨_, .inl (SqL.of (s12.get (s811.get e48))), ?_⟩
  rw [List.length_map, la, hpl, decide_eq_true rfl]
  exact k _
end
theorem all_of {l : PySem.W.OpenLaw} {w : World} {K : PySem.W.Frag} {h : Heap} {mg : Str → Option Value} {fa : Addr} (KO : Om K = QW) (X : K.In h) (G : h.Ns mainGlobals mg) (hfa : mg "law" = some (.ref fa)) :
  ∃ fd : FuncData, (∀ (s : Shared) (v : Value), BindsTo s fd ⟨[v], []⟩ [("_law_script", v)]) ∧ (∀ h', K.In h' → isCodeTable h' DW) ∧ ∀ base : Heap, K.In base → base.Ns mainGlobals mg → Ah l.prog w K mg base CX0 12 fa fd ["_law_script"] (sp_law K) := by
 obtain ⟨g0, KO⟩ := Prod.mk.inj KO
 obtain ⟨g1, KO⟩ := Prod.mk.inj KO
 obtain ⟨g2, KO⟩ := Prod.mk.inj KO
 obtain ⟨g3, KO⟩ := Prod.mk.inj KO
 obtain ⟨g4, KO⟩ := Prod.mk.inj KO
 obtain ⟨g5, KO⟩ := Prod.mk.inj KO
 obtain ⟨g6, KO⟩ := Prod.mk.inj KO
 obtain ⟨g7, KO⟩ := Prod.mk.inj KO
 obtain ⟨g8, KO⟩ := Prod.mk.inj KO
 obtain ⟨g9, KO⟩ := Prod.mk.inj KO
 obtain ⟨g10, KO⟩ := Prod.mk.inj KO
 have g11 := KO
 obtain ⟨h1, g0⟩ := List.cons.inj g0
 obtain ⟨h2, g0⟩ := List.cons.inj g0
 obtain ⟨h3, g0⟩ := List.cons.inj g0
 obtain ⟨h4, g0⟩ := List.cons.inj g0
 obtain ⟨h5, g0⟩ := List.cons.inj g0
 obtain ⟨h6, g0⟩ := List.cons.inj g0
 obtain ⟨h7, g0⟩ := List.cons.inj g0
 obtain ⟨h8, g0⟩ := List.cons.inj g0
 obtain ⟨h9, g1⟩ := List.cons.inj g1
 obtain ⟨h10, g1⟩ := List.cons.inj g1
 obtain ⟨h11, g1⟩ := List.cons.inj g1
 obtain ⟨h12, g1⟩ := List.cons.inj g1
 obtain ⟨h39, g1⟩ := List.cons.inj g1
 obtain ⟨h75, g1⟩ := List.cons.inj g1
 obtain ⟨h76, g1⟩ := List.cons.inj g1
 obtain ⟨h77, g1⟩ := List.cons.inj g1
 obtain ⟨h78, g2⟩ := List.cons.inj g2
 obtain ⟨h79, g2⟩ := List.cons.inj g2
 obtain ⟨h80, g2⟩ := List.cons.inj g2
 obtain ⟨h81, g2⟩ := List.cons.inj g2
 obtain ⟨h82, g2⟩ := List.cons.inj g2
 obtain ⟨h83, g2⟩ := List.cons.inj g2
 obtain ⟨h84, g2⟩ := List.cons.inj g2
 obtain ⟨h85, g2⟩ := List.cons.inj g2
 obtain ⟨h86, g3⟩ := List.cons.inj g3
 obtain ⟨h87, g3⟩ := List.cons.inj g3
 obtain ⟨h88, g3⟩ := List.cons.inj g3
 obtain ⟨h89, g3⟩ := List.cons.inj g3
 obtain ⟨h13, g4⟩ := List.cons.inj g4
 obtain ⟨h14, g4⟩ := List.cons.inj g4
 obtain ⟨h15, g4⟩ := List.cons.inj g4
 obtain ⟨h16, g4⟩ := List.cons.inj g4
 obtain ⟨h17, g4⟩ := List.cons.inj g4
 obtain ⟨h18, g4⟩ := List.cons.inj g4
 obtain ⟨h19, g4⟩ := List.cons.inj g4
 obtain ⟨h20, g4⟩ := List.cons.inj g4
 obtain ⟨h21, g5⟩ := List.cons.inj g5
 obtain ⟨h22, g5⟩ := List.cons.inj g5
 obtain ⟨h23, g5⟩ := List.cons.inj g5
 obtain ⟨h24, g5⟩ := List.cons.inj g5
 obtain ⟨h25, g5⟩ := List.cons.inj g5
 obtain ⟨h26, g5⟩ := List.cons.inj g5
 obtain ⟨h27, g5⟩ := List.cons.inj g5
 obtain ⟨h28, g5⟩ := List.cons.inj g5
 obtain ⟨h29, g6⟩ := List.cons.inj g6
 obtain ⟨h30, g6⟩ := List.cons.inj g6
 obtain ⟨h31, g6⟩ := List.cons.inj g6
 obtain ⟨h32, g6⟩ := List.cons.inj g6
 obtain ⟨h33, g6⟩ := List.cons.inj g6
 obtain ⟨h34, g6⟩ := List.cons.inj g6
 obtain ⟨h35, g6⟩ := List.cons.inj g6
 obtain ⟨h36, g6⟩ := List.cons.inj g6
 obtain ⟨h37, g7⟩ := List.cons.inj g7
 obtain ⟨h38, g7⟩ := List.cons.inj g7
 obtain ⟨h40, g7⟩ := List.cons.inj g7
 obtain ⟨h41, g7⟩ := List.cons.inj g7
 obtain ⟨h42, g7⟩ := List.cons.inj g7
 obtain ⟨h43, g7⟩ := List.cons.inj g7
 obtain ⟨h44, g7⟩ := List.cons.inj g7
 obtain ⟨h45, g7⟩ := List.cons.inj g7
 obtain ⟨h46, g8⟩ := List.cons.inj g8
 obtain ⟨h47, g8⟩ := List.cons.inj g8
 obtain ⟨h48, g8⟩ := List.cons.inj g8
 obtain ⟨h49, g8⟩ := List.cons.inj g8
 obtain ⟨h50, g8⟩ := List.cons.inj g8
 obtain ⟨h51, g8⟩ := List.cons.inj g8
 obtain ⟨h52, g8⟩ := List.cons.inj g8
 obtain ⟨h53, g8⟩ := List.cons.inj g8
 obtain ⟨h54, g9⟩ := List.cons.inj g9
 obtain ⟨h55, g9⟩ := List.cons.inj g9
 obtain ⟨h56, g9⟩ := List.cons.inj g9
 obtain ⟨h57, g9⟩ := List.cons.inj g9
 obtain ⟨h58, g9⟩ := List.cons.inj g9
 obtain ⟨h59, g9⟩ := List.cons.inj g9
 obtain ⟨h60, g9⟩ := List.cons.inj g9
 obtain ⟨h61, g9⟩ := List.cons.inj g9
 obtain ⟨h62, g10⟩ := List.cons.inj g10
 obtain ⟨h63, g10⟩ := List.cons.inj g10
 obtain ⟨h64, g10⟩ := List.cons.inj g10
 obtain ⟨h65, g10⟩ := List.cons.inj g10
 obtain ⟨h66, g10⟩ := List.cons.inj g10
 obtain ⟨h67, g10⟩ := List.cons.inj g10
 obtain ⟨h68, g10⟩ := List.cons.inj g10
 obtain ⟨h69, g11⟩ := List.cons.inj g11
 obtain ⟨h70, g11⟩ := List.cons.inj g11
 obtain ⟨h71, g11⟩ := List.cons.inj g11
 obtain ⟨h72, g11⟩ := List.cons.inj g11
 obtain ⟨h73, g11⟩ := List.cons.inj g11
 obtain ⟨h74, g11⟩ := List.cons.inj g11
 obtain ⟨AT, aC_Beach, pg_Beach, hd_Beach, po_Beach, sa_Beach, Kt, kc_Beach, na_Beach⟩ := Sd h1
 obtain ⟨C8, aC_BeachError, ex_BeachError⟩ := B5 h2
 obtain ⟨F3, aC_NoGate, ex_NoGate⟩ := B5 h3
 obtain ⟨Ih, aC_Taken, ex_Taken⟩ := B5 h4
 obtain ⟨B8, aC_UpsideDown, ex_UpsideDown⟩ := B5 h5
 obtain ⟨Bp, aC_OutOfBounds, ex_OutOfBounds⟩ := B5 h6
 obtain ⟨Cb, aC_BeachFull, ex_BeachFull⟩ := B5 h7
 obtain ⟨Cc, aC_DeedsFull, ex_DeedsFull⟩ := B5 h8
 obtain ⟨Ee, aC_BadList, ex_BadList⟩ := B5 h9
 obtain ⟨GC, aC_TooFew, ex_TooFew⟩ := B5 h10
 obtain ⟨Ca, aC_WrongSize, ex_WrongSize⟩ := B5 h11
 obtain ⟨DO, aC_BadThrow, ex_BadThrow⟩ := B5 h12
 obtain ⟨f1, fd1, d1⟩ := Ae (ps := ["place", "height", "start", "end"]) X G h13 fun _ _ _ _ _ _ us hl => by obtain ⟨x0, x1, x2, x3, rfl⟩ := Sr hl; rfl
 obtain ⟨f2, fd2, d2⟩ := Ae (ps := ["one", "two", "three"]) X G h14 fun _ _ _ _ _ _ us hl => by obtain ⟨x0, x1, x2, rfl⟩ := L0 hl; rfl
 obtain ⟨f3, fd3, d3⟩ := Ae (ps := ["gates"]) X G h15 fun _ _ _ _ _ _ us hl => by obtain ⟨x0, rfl⟩ := Cq hl; rfl
 obtain ⟨f4, fd4, d4⟩ := Ae (ps := ["one", "two"]) X G h16 fun _ _ _ _ _ _ us hl => by obtain ⟨x0, x1, rfl⟩ := DX hl; rfl
 obtain ⟨f5, fd5, d5⟩ := Ae (ps := ["top", "bottom"]) X G h17 fun _ _ _ _ _ _ us hl => by obtain ⟨x0, x1, rfl⟩ := DX hl; rfl
 obtain ⟨f6, fd6, d6⟩ := Ae (ps := ["one", "two"]) X G h18 fun _ _ _ _ _ _ us hl => by obtain ⟨x0, x1, rfl⟩ := DX hl; rfl
 obtain ⟨f7, fd7, d7⟩ := Ae (ps := ["throw", "place"]) X G h19 fun _ _ _ _ _ _ us hl => by obtain ⟨x0, x1, rfl⟩ := DX hl; rfl
 obtain ⟨f8, fd8, d8⟩ := Ae (ps := ["place", "height", "other", "second"]) X G h20 fun _ _ _ _ _ _ us hl => by obtain ⟨x0, x1, x2, x3, rfl⟩ := Sr hl; rfl
 obtain ⟨f9, fd9, d9⟩ := Ae (ps := ["throw", "gate"]) X G h21 fun _ _ _ _ _ _ us hl => by obtain ⟨x0, x1, rfl⟩ := DX hl; rfl
 obtain ⟨f10, fd10, d10⟩ := Ae (ps := ["throw", "gates"]) X G h22 fun _ _ _ _ _ _ us hl => by obtain ⟨x0, x1, rfl⟩ := DX hl; rfl
 obtain ⟨f11, fd11, d11⟩ := Ae (ps := ["throw", "ordered"]) X G h23 fun _ _ _ _ _ _ us hl => by obtain ⟨x0, x1, rfl⟩ := DX hl; rfl
 obtain ⟨f12, fd12, d12⟩ := Ae (ps := ["earlier", "later"]) X G h24 fun _ _ _ _ _ _ us hl => by obtain ⟨x0, x1, rfl⟩ := DX hl; rfl
 obtain ⟨f13, fd13, d13⟩ := Ae (ps := ["ordered"]) X G h25 fun _ _ _ _ _ _ us hl => by obtain ⟨x0, rfl⟩ := Cq hl; rfl
 obtain ⟨f14, fd14, d14⟩ := Ae (ps := ["ordered"]) X G h26 fun _ _ _ _ _ _ us hl => by obtain ⟨x0, rfl⟩ := Cq hl; rfl
 obtain ⟨f15, fd15, d15⟩ := Ae (ps := ["height"]) X G h27 fun _ _ _ _ _ _ us hl => by obtain ⟨x0, rfl⟩ := Cq hl; rfl
 obtain ⟨f16, fd16, d16⟩ := Ae (ps := ["ordered"]) X G h28 fun _ _ _ _ _ _ us hl => by obtain ⟨x0, rfl⟩ := Cq hl; rfl
 obtain ⟨f17, fd17, d17⟩ := Ae (ps := ["gates"]) X G h29 fun _ _ _ _ _ _ us hl => by obtain ⟨x0, rfl⟩ := Cq hl; rfl
 obtain ⟨f18, fd18, d18⟩ := Ae (ps := ["gates"]) X G h30 fun _ _ _ _ _ _ us hl => by obtain ⟨x0, rfl⟩ := Cq hl; rfl
 obtain ⟨f19, fd19, d19⟩ := Ae (ps := ["gates"]) X G h31 fun _ _ _ _ _ _ us hl => by obtain ⟨x0, rfl⟩ := Cq hl; rfl
 obtain ⟨f20, fd20, d20⟩ := Ae (ps := ["gate"]) X G h32 fun _ _ _ _ _ _ us hl => by obtain ⟨x0, rfl⟩ := Cq hl; rfl
 obtain ⟨f21, fd21, d21⟩ := Ae (ps := ["throw"]) X G h33 fun _ _ _ _ _ _ us hl => by obtain ⟨x0, rfl⟩ := Cq hl; rfl
 obtain ⟨f22, fd22, d22⟩ := Ae (ps := ["gates"]) X G h34 fun _ _ _ _ _ _ us hl => by obtain ⟨x0, rfl⟩ := Cq hl; rfl
 obtain ⟨f23, fd23, d23⟩ := Ae (ps := ["run", "throw"]) X G h35 fun _ _ _ _ _ _ us hl => by obtain ⟨x0, x1, rfl⟩ := DX hl; rfl
 obtain ⟨f24, fd24, d24⟩ := Ae (ps := ["gates"]) X G h36 fun _ _ _ _ _ _ us hl => by obtain ⟨x0, rfl⟩ := Cq hl; rfl
 obtain ⟨f25, fd25, d25⟩ := Ae (ps := ["ordered"]) X G h37 fun _ _ _ _ _ _ us hl => by obtain ⟨x0, rfl⟩ := Cq hl; rfl
 obtain ⟨f26, fd26, d26⟩ := Ae (ps := ["gates"]) X G h38 fun _ _ _ _ _ _ us hl => by obtain ⟨x0, rfl⟩ := Cq hl; rfl
 obtain ⟨c26, la26, isT⟩ := LM.Sh X G d26 h39
 obtain ⟨f27, fd27, d27⟩ := Ae (ps := ["gate"]) X G h40 fun _ _ _ _ _ _ us hl => by obtain ⟨x0, rfl⟩ := Cq hl; rfl
 obtain ⟨f28, fd28, d28⟩ := Ae (ps := ["places"]) X G h41 fun _ _ _ _ _ _ us hl => by obtain ⟨x0, rfl⟩ := Cq hl; rfl
 obtain ⟨f29, fd29, d29⟩ := Ae (ps := ["throw"]) X G h42 fun _ _ _ _ _ _ us hl => by obtain ⟨x0, rfl⟩ := Cq hl; rfl
 obtain ⟨f30, fd30, d30⟩ := Bv (ps := ["self"]) aC_Beach h43 fun _ _ _ _ _ _ us hl => by obtain ⟨x0, rfl⟩ := Cq hl; rfl
 obtain ⟨f31, fd31, d31⟩ := Bv (ps := ["self", "place"]) aC_Beach h44 fun _ _ _ _ _ _ us hl => by obtain ⟨x0, x1, rfl⟩ := DX hl; rfl
 obtain ⟨f32, fd32, d32⟩ := Bv (ps := ["self", "place"]) aC_Beach h45 fun _ _ _ _ _ _ us hl => by obtain ⟨x0, x1, rfl⟩ := DX hl; rfl
 obtain ⟨f33, fd33, d33⟩ := Bv (ps := ["self", "place", "instead"]) aC_Beach h46 fun _ _ _ _ _ _ us hl => by obtain ⟨x0, x1, x2, rfl⟩ := L0 hl; rfl
 obtain ⟨f34, fd34, d34⟩ := Bv (ps := ["self", "place", "foot", "head"]) aC_Beach h47 fun _ _ _ _ _ _ us hl => by obtain ⟨x0, x1, x2, x3, rfl⟩ := Sr hl; rfl
 obtain ⟨f35, fd35, d35⟩ := Bv (ps := ["self"]) aC_Beach h48 fun _ _ _ _ _ _ us hl => by obtain ⟨x0, rfl⟩ := Cq hl; rfl
 obtain ⟨f36, fd36, d36⟩ := Bv (ps := ["self"]) aC_Beach h49 fun _ _ _ _ _ _ us hl => by obtain ⟨x0, rfl⟩ := Cq hl; rfl
 obtain ⟨f37, fd37, d37⟩ := Bv (ps := ["self", "places"]) aC_Beach h50 fun _ _ _ _ _ _ us hl => by obtain ⟨x0, x1, rfl⟩ := DX hl; rfl
 obtain ⟨f38, fd38, d38⟩ := Bv (ps := ["self", "places"]) aC_Beach h51 fun _ _ _ _ _ _ us hl => by obtain ⟨x0, x1, rfl⟩ := DX hl; rfl
 obtain ⟨f39, fd39, d39⟩ := Bv (ps := ["self", "places"]) aC_Beach h52 fun _ _ _ _ _ _ us hl => by obtain ⟨x0, x1, rfl⟩ := DX hl; rfl
 obtain ⟨f40, fd40, d40⟩ := Bv (ps := ["self", "places"]) aC_Beach h53 fun _ _ _ _ _ _ us hl => by obtain ⟨x0, x1, rfl⟩ := DX hl; rfl
 obtain ⟨f41, fd41, d41⟩ := Bv (ps := ["self", "places"]) aC_Beach h54 fun _ _ _ _ _ _ us hl => by obtain ⟨x0, x1, rfl⟩ := DX hl; rfl
 obtain ⟨f42, fd42, d42⟩ := Bv (ps := ["self"]) aC_Beach h55 fun _ _ _ _ _ _ us hl => by obtain ⟨x0, rfl⟩ := Cq hl; rfl
 obtain ⟨f43, fd43, d43⟩ := Bv (ps := ["self"]) aC_Beach h56 fun _ _ _ _ _ _ us hl => by obtain ⟨x0, rfl⟩ := Cq hl; rfl
 obtain ⟨f44, fd44, d44⟩ := Bv (ps := ["self", "throw"]) aC_Beach h57 fun _ _ _ _ _ _ us hl => by obtain ⟨x0, x1, rfl⟩ := DX hl; rfl
 obtain ⟨f45, fd45, d45⟩ := Ae (ps := ["_law_script", "_law_k"]) X G h58 fun _ _ _ _ _ _ us hl => by obtain ⟨x0, x1, rfl⟩ := DX hl; rfl
 obtain ⟨f46, fd46, d46⟩ := Ae (ps := ["_law_cell", "_law_many", "_law_mixed"]) X G h59 fun _ _ _ _ _ _ us hl => by obtain ⟨x0, x1, x2, rfl⟩ := L0 hl; rfl
 obtain ⟨f47, fd47, d47⟩ := Ae (ps := ["_law_kind", "_law_line", "_law_wide", "_law_low", "_law_high"]) X G h60 fun _ _ _ _ _ _ us hl => by obtain ⟨x0, x1, x2, x3, x4, rfl⟩ := len5 hl; rfl
 obtain ⟨f48, fd48, d48⟩ := Ae (ps := ["_law_script", "_law_at_here", "_law_many"]) X G h61 fun _ _ _ _ _ _ us hl => by obtain ⟨x0, x1, x2, rfl⟩ := L0 hl; rfl
 obtain ⟨f49, fd49, d49⟩ := Ae (ps := ["_law_found"]) X G h62 fun _ _ _ _ _ _ us hl => by obtain ⟨x0, rfl⟩ := Cq hl; rfl
 obtain ⟨f50, fd50, d50⟩ := Ae (ps := ["_law_found", "_law_due"]) X G h63 fun _ _ _ _ _ _ us hl => by obtain ⟨x0, x1, rfl⟩ := DX hl; rfl
 obtain ⟨f51, fd51, d51⟩ := Ae (ps := ["_law_found", "_law_due"]) X G h64 fun _ _ _ _ _ _ us hl => by obtain ⟨x0, x1, rfl⟩ := DX hl; rfl
 obtain ⟨f52, fd52, d52⟩ := Ae (ps := ["_law_found", "_law_due"]) X G h65 fun _ _ _ _ _ _ us hl => by obtain ⟨x0, x1, rfl⟩ := DX hl; rfl
 obtain ⟨f53, fd53, d53⟩ := Ae (ps := ["_law_one", "_law_two", "_law_deep"]) X G h66 fun _ _ _ _ _ _ us hl => by obtain ⟨x0, x1, x2, rfl⟩ := L0 hl; rfl
 obtain ⟨f54, fd54, d54⟩ := Ae (ps := ["_law_beach", "_law_places", "_law_throw"]) X G h67 fun _ _ _ _ _ _ us hl => by obtain ⟨x0, x1, x2, rfl⟩ := L0 hl; rfl
 obtain ⟨f55, oc, od, sl, kV, dc, pm, an, cd, ct, a, l, c, k⟩ := Ph h68
 obtain ⟨t_LEAST, ak_LEAST⟩ := GX h69
 obtain ⟨t_GREATEST, ak_GREATEST⟩ := GX h70
 obtain ⟨t_MOST_GATES, ak_MOST_GATES⟩ := GX h71
 obtain ⟨t_MOST_DEEDS, ak_MOST_DEEDS⟩ := GX h72
 obtain ⟨t_SMALL_BEACH, ak_SMALL_BEACH⟩ := GX h73
 obtain ⟨t_GREAT_NUMBER, ak_GREAT_NUMBER⟩ := GX h74
 have e := hfa.symm.trans (PySem.W.mg_of X G a)
 cases e
 let T : Tx K mg := ⟨AT,
  PySem.W.mg_of X G aC_Beach,
  ⟨pg_Beach, hd_Beach, po_Beach, sa_Beach⟩,
  na_Beach "standing" (by simp only [List.mem_cons, true_or, or_true]),
  na_Beach "past" (by simp only [List.mem_cons, true_or, or_true]),
  C8,
  PySem.W.mg_of X G aC_BeachError,
  ex_BeachError,
  F3,
  PySem.W.mg_of X G aC_NoGate,
  ex_NoGate,
  Ih,
  PySem.W.mg_of X G aC_Taken,
  ex_Taken,
  B8,
  PySem.W.mg_of X G aC_UpsideDown,
  ex_UpsideDown,
  Bp,
  PySem.W.mg_of X G aC_OutOfBounds,
  ex_OutOfBounds,
  Cb,
  PySem.W.mg_of X G aC_BeachFull,
  ex_BeachFull,
  Cc,
  PySem.W.mg_of X G aC_DeedsFull,
  ex_DeedsFull,
  Ee,
  PySem.W.mg_of X G aC_BadList,
  ex_BadList,
  GC,
  PySem.W.mg_of X G aC_TooFew,
  ex_TooFew,
  Ca,
  PySem.W.mg_of X G aC_WrongSize,
  ex_WrongSize,
  DO,
  PySem.W.mg_of X G aC_BadThrow,
  ex_BadThrow,
  f1, fd1, d1,
  f2, fd2, d2,
  f3, fd3, d3,
  f4, fd4, d4,
  f5, fd5, d5,
  f6, fd6, d6,
  f7, fd7, d7,
  f8, fd8, d8,
  f9, fd9, d9,
  f10, fd10, d10,
  f11, fd11, d11,
  f12, fd12, d12,
  f13, fd13, d13,
  f14, fd14, d14,
  f15, fd15, d15,
  f16, fd16, d16,
  f17, fd17, d17,
  f18, fd18, d18,
  f19, fd19, d19,
  f20, fd20, d20,
  f21, fd21, d21,
  f22, fd22, d22,
  f23, fd23, d23,
  f24, fd24, d24,
  f25, fd25, d25,
  f26, fd26, d26,
  c26, la26,
  f27, fd27, d27,
  f28, fd28, d28,
  f29, fd29, d29,
  f30, fd30, d30,
  f31, fd31, d31,
  f32, fd32, d32,
  f33, fd33, d33,
  f34, fd34, d34,
  f35, fd35, d35,
  f36, fd36, d36,
  f37, fd37, d37,
  f38, fd38, d38,
  f39, fd39, d39,
  f40, fd40, d40,
  f41, fd41, d41,
  f42, fd42, d42,
  f43, fd43, d43,
  f44, fd44, d44,
  f45, fd45, d45,
  f46, fd46, d46,
  f47, fd47, d47,
  f48, fd48, d48,
  f49, fd49, d49,
  f50, fd50, d50,
  f51, fd51, d51,
  f52, fd52, d52,
  f53, fd53, d53,
  f54, fd54, d54,
  _, _, ⟨Jj l c k, PySem.W.mg_of X G a, (Jj l c k).binds (ps := ["_law_script"]) fun _ _ _ _ _ _ us hl => by obtain ⟨x0, rfl⟩ := Cq hl; rfl⟩,
  ⟨Kt, d30.mt.1, d30.mt.2, kc_Beach⟩,
  _,
  PySem.W.mg_of X G ak_LEAST,
  ⟨_, rfl⟩,
  _,
  PySem.W.mg_of X G ak_GREATEST,
  ⟨_, rfl⟩,
  _,
  PySem.W.mg_of X G ak_MOST_GATES,
  ⟨_, rfl⟩,
  _,
  PySem.W.mg_of X G ak_MOST_DEEDS,
  ⟨_, rfl⟩,
  _,
  PySem.W.mg_of X G ak_SMALL_BEACH,
  ⟨_, rfl⟩,
  _,
  PySem.W.mg_of X G ak_GREAT_NUMBER,
  ⟨_, rfl⟩,
  PySem.W.mg_none_of X G (BP h75),
  PySem.W.mg_none_of X G (BP h76),
  PySem.W.mg_none_of X G (BP h77),
  PySem.W.mg_none_of X G (BP h78),
  PySem.W.mg_none_of X G (BP h79),
  PySem.W.mg_none_of X G (BP h80),
  PySem.W.mg_none_of X G (BP h81),
  PySem.W.mg_none_of X G (BP h82),
  PySem.W.mg_none_of X G (BP h83),
  PySem.W.mg_none_of X G (BP h84),
  PySem.W.mg_none_of X G (BP h85),
  PySem.W.mg_none_of X G (BP h86),
  PySem.W.mg_none_of X G (BP h87),
  PySem.W.mg_none_of X G (BP h88),
  PySem.W.mg_none_of X G (BP h89)⟩
 exact ⟨_, fun s v => .of_eq rfl, isT, fun base _ _ => ok_law T⟩
end TG
open PySem PySem.W PyProof.Rows
set_option maxRecDepth 100000 in
set_option maxHeartbeats 0 in
theorem PySem.Challenge.cw_throwgate_k28_own_lists_holds : PySem.Challenge.rw_throwgate_k28_own_lists.Holds := by
 w_on; o_law
 refine holds_open (q := TG.qv) (loose := TG.Jm) (Xt := fun _ => true) (XP := fun _ _ => True) (Yf := fun s => (LM.Fq (s.heap.get? TG.DW), TG.Om (TG.Kof TG.addrs s.heap))) (Ya := fun _ => (true, TG.QW)) (YP := LM.Ht TG.DW TG.addrs TG.Om TG.QW) (N := 9192) TG.SN (fun w s e => LM.Ht.of (by decide) w s e) LM.Ht.keeps (fun _ _ => trivial) (fun _ _ _ _ _ => trivial) (by rfl) (by rfl) (by rfl) (fun _ _ => TG.WA rfl) rfl (by assumption) (by decide +kernel) ⟨rfl, rfl, rfl, rfl, rfl, by decide +kernel⟩ ?hw ?hc
 case hw => w_witness2
 case hc =>
  exact LM.RF (T := TG.DW) (l := PySem.Challenge.rw_throwgate_k28_own_lists) (n := 63) (k := 12) (x := "_law_script") (CX := L2.CX0) (sp := TG.sp_law) rfl (by decide) rfl ⟨rfl, by decide, by decide⟩ (fun w mg fa h K KO KX G hmg => TG.all_of KO KX G hmg) (fun _ _ a ns hl hO hS => ⟨a, ns, rfl, hS, hl, .inl hO.1, fun _ => rfl⟩) fun _ _ _ _ z => z
